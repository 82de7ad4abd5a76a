import PyProof.Rows.All
import Wide.All
import OpenK.AllK
import Wide.FinOn
import Lean
import PyProof.EqAt
import PyProof.EqKinds
import PyProof.TupleCall
import PyProof.NeKinds
import PyProof.ZipIter
import PyProof.StrLoop
import PyProof.StrWalks
import PyProof.StrCalls
import PyProof.StrCalls2
import PyProof.StrLawsIn
import PyProof.SliceStr2
import PyProof.StrBlock
import PyProof.Rows.StrFirst
import KE.KIntText
import PyProof.StrLawsChain
import PyProof.StrLawsTight
import PyProof.CallStr
import PyProof.Rows.FStr
import PySem.SetTable
import PyProof.TupleKey
import PyProof.SetKind
import PyProof.IsRules
import PyProof.Rows.SetFrom
import PyProof.WalksMore
import PyProof.TupleIter
import KE.KSortTup
import PySem.Challenge.RW_dipright_k02_rectangles_parted
set_option Elab.async false
set_option backward.eqns.nonrecursive false
set_option linter.all false
set_option maxRecDepth 100000
set_option maxHeartbeats 4000000
section
namespace L2
open PySem PySem.Spec PyProof.Rows
abbrev Key:=Sum Int Str
noncomputable def keyIs:Key→Value→Bool
 |.inl k,v=>Value.isInt k v
 |.inr x,v=>Value.isStrOf x v
noncomputable def keyH(w:World):Key→Int
 |.inl k=>hashInt k
 |.inr x=>hashStr w x
theorem keyIs_shape:∀ {k:Key}{v:Value},keyIs k v=true→(∃ i t,k=Sum.inl i∧v=Value.int i t)∨(∃ x t,k=Sum.inr x∧v=Value.str x t)
 |.inl i,v,h=>by
  obtain⟨t,e⟩:=Value.isInt_shape (k:=i) (v:=v) h
  exact .inl ⟨i,t,rfl,e⟩
 |.inr x,v,h=>by
  obtain⟨t,e⟩:=Value.isStrOf_shape (x:=x) (v:=v) h
  exact .inr ⟨x,t,rfl,e⟩
theorem key_ll(a b:Int):decide ((Sum.inl a:Key)=Sum.inl b)=(a==b):=by
 by_cases e:a=b
 ·subst e; simp
 ·have h:¬ (Sum.inl a:Key)=Sum.inl b:=fun q=>e (Sum.inl.inj q)
  rw[decide_eq_false h]
  exact(beq_eq_false_iff_ne.mpr e).symm
theorem key_rr(a b:Str):decide ((Sum.inr a:Key)=Sum.inr b)=decide (a=b):=by
 by_cases e:a=b
 ·subst e; simp
 ·have h:¬ (Sum.inr a:Key)=Sum.inr b:=fun q=>e (Sum.inr.inj q)
  rw[decide_eq_false h,decide_eq_false e]
theorem key_lr(a:Int)(b:Str):decide ((Sum.inl a:Key)=Sum.inr b)=false:=decide_eq_false (fun q=>nomatch q)
theorem key_rl(a:Str)(b:Int):decide ((Sum.inr a:Key)=Sum.inl b)=false:=decide_eq_false (fun q=>nomatch q)
noncomputable def mixKind(prog:Program)(w:World):PySem.KeyKind prog w Key where
 is:=keyIs
 hash:=keyH w
 inj:=fun v a b ha hb=>by
  rcases keyIs_shape ha with⟨i,t,rfl,rfl⟩|⟨x,t,rfl,rfl⟩
  ·rcases keyIs_shape hb with⟨j,u,rfl,e⟩|⟨y,u,rfl,e⟩
   ·injection e with e1 _; rw[e1]
   ·exact nomatch e
  ·rcases keyIs_shape hb with⟨j,u,rfl,e⟩|⟨y,u,rfl,e⟩
   ·exact nomatch e
   ·injection e with e1 _; rw[e1]
 byValue:=fun k v h=>by
  rcases keyIs_shape h with⟨i,t,rfl,rfl⟩|⟨x,t,rfl,rfl⟩<;>rfl
 pyHash:=fun hv h=>by
  rcases keyIs_shape hv with⟨i,t,rfl,rfl⟩|⟨x,t,rfl,rfl⟩
  ·exact wpAny_pyHash_int h
  ·exact wpAny_pyHash_str h
 eqBool:=fun hu hv h=>by
  rcases keyIs_shape hu with⟨i,t,rfl,rfl⟩|⟨x,t,rfl,rfl⟩
  ·rcases keyIs_shape hv with⟨j,u,rfl,rfl⟩|⟨y,u,rfl,rfl⟩
   ·rw[key_ll]at h; exact wpAny_eqBool_int h
   ·rw[key_lr]at h; exact SeqAt.EqAt.int_str i t y u _ _ _ _ h
  ·rcases keyIs_shape hv with⟨j,u,rfl,rfl⟩|⟨y,u,rfl,rfl⟩
   ·rw[key_rl]at h; exact SeqAt.EqAt.str_int x t j u _ _ _ _ h
   ·rw[key_rr]at h; exact wpAny_eqBool_str h
 «strs»:=fun k x t v h=>by
  rcases keyIs_shape h with⟨i,u,rfl,e⟩|⟨y,u,rfl,e⟩
  ·exact nomatch e
  ·injection e with e1 _
   subst e1
   cases v<;>rfl
end L2
namespace L2
open PySem PySem.Spec PyProof.Rows
inductive V where
 |non|bl (b:Bool)|int (i:Int)|str (x:Str)|byt (b:Array UInt8)|flt (b:UInt64)|ref (a:Addr)|ty (n:String)
 deriving DecidableEq
noncomputable def RelV:V→Value→Prop
 |.non,u=>u=Value.none
 |.bl b,u=>u=Value.bool b
 |.int i,u=>∃ t,u=Value.int i t
 |.str x,u=>∃ t,u=Value.str x t
 |.byt b,u=>∃ t,u=Value.bytes b t
 |.flt b,u=>∃ t,u=Value.float b t
 |.ref a,u=>u=Value.ref a
 |.ty n,u=>u=Value.type n
abbrev Vals:List V→List Value→Prop:=Paired RelV
theorem Vals.length{xs:List V}{us:List Value}(r:Vals xs us):xs.length=us.length:=Paired.length r
theorem Vals.get:∀ {xs:List V}{us:List Value}{i:Nat}{x:V},Vals xs us→xs[i]?=some x→∃ u,us[i]?=some u∧RelV x u
 |_,_,_,_,.nil,e=>by simp at e
 |_,_,0,_,.cons r _,e=>by simp at e; subst e; exact⟨_,rfl,r⟩
 |_,_,i+1,x,.cons _ t,e=>by
  obtain⟨u,h1,h2⟩:=Vals.get (i:=i) (x:=x) t (by simpa using e)
  exact⟨u,by simpa using h1,h2⟩
theorem Vals.set{x:V}{u:Value}(r:RelV x u):∀ {xs:List V}{us:List Value}(i:Nat),Vals xs us→Vals (xs.set i x) (us.set i u)
 |_,_,_,.nil=>.nil
 |_,_,0,.cons _ t=>.cons r t
 |_,_,i+1,.cons q t=>.cons q (Vals.set r i t)
theorem Vals.append:∀ {xs ys:List V}{us ws:List Value},Vals xs us→Vals ys ws→Vals (xs++ys) (us++ws)
 |_,_,_,_,.nil,s=>s
 |_,_,_,_,.cons r t,s=>.cons r (Vals.append t s)
theorem Vals.take:∀ {xs:List V}{us:List Value}(n:Nat),Vals xs us→Vals (xs.take n) (us.take n)
 |_,_,0,_=>.nil
 |_,_,_+1,.nil=>.nil
 |_,_,n+1,.cons r t=>.cons r (Vals.take n t)
theorem Vals.drop:∀ {xs:List V}{us:List Value}(n:Nat),Vals xs us→Vals (xs.drop n) (us.drop n)
 |_,_,0,r=>r
 |_,_,_+1,.nil=>.nil
 |_,_,n+1,.cons _ t=>Vals.drop n t
noncomputable def RelO:Option V→Option Value→Prop
 |some v,some u=>RelV v u
 |none,none=>True
 |_,_=>False
def KV{κ:Type}:List (κ×V)→List (κ×Value)→Prop:=Paired fun(p:κ×V) (q:κ×Value)=>p.1=q.1∧RelV p.2 q.2
noncomputable def kV:Key→V
 |.inl i=>.int i
 |.inr x=>.str x
inductive HO where
 /-- a list -/
 |lst (xs:List V)
 /-- a tuple (never changes) -/
 |tup (xs:List V)
 /-- a dict whose keys are ints and texts; one whose keys are tuples of ints and texts (the empty one is both) -/
 |dK (kvs:List (Key×V))|dT (kvs:List (List Key×V))
 /-- a set of ints: its members,its size -/
 |set (S:Int→Bool) (n:Nat)
 /-- an instance of the class at C,its dict at dx,its attributes -/
 |ins (C dx:Addr) (fs:List (Str×V))
 /-- the dict of the instance at x -/
 |own (x:Addr)
 /-- the dict of an exception -/
 |xd (fs:List (Str×V))
 /-- a bound method,f of x -/
 |met (f x:Addr)
 /-- a range object lo,lo+1,.. below hi -/
 |rng (lo hi:Int)
 /-- a thing that is known to the object (the script; a dict while a loop walks it): read,never written while it is so -/
 |frz (o:Obj) (u:HO)
 /-- a code object's table -/
 |tbl (ps:Array Value)
 /-- any other thing,by what is true of its one object (a def of one's own: SetO a S n:=HO.ext fun h=>..) -/
 |ext (φ:Heap→Prop)
abbrev Hp:=Addr→Option HO
noncomputable def upd(H:Hp)(a:Addr)(o:HO):Hp:=fun b=>if b=a then some o else H b
theorem upd_same{H:Hp}{a:Addr}{o:HO}:upd H a o a=some o:=by unfold upd; rw[if_pos rfl]
theorem upd_ne{H:Hp}{a b:Addr}{o:HO}(h:b≠a):upd H a o b=H b:=by unfold upd; rw[if_neg h]
theorem ne_of{H:Hp}{a b:Addr}{o u:HO}(h:H a=some o)(h':H b=some u)(d:o≠u):a≠b:=by
 intro e; subst e; rw[h]at h'; exact d (Option.some.inj h')
theorem ne_of_none{H:Hp}{a b:Addr}{o:HO}(h:H a=some o)(h':H b=none):a≠b:=by
 intro e; subst e; rw[h]at h'; cases h'
section
variable (P:Program)(w:World)
noncomputable def ObjOk(H:Hp)(h:Heap)(a:Addr):HO→Prop
 |.lst xs=>xs.length≤sizeLine∧∃ (its:List Value) (n:Nat),Vals xs its∧h.get? a=some { cls:=.type "list",data:=.seq its.toArray n }
 |.tup xs=>xs.length≤sizeLine∧∃ its:List Value,Vals xs its∧IsTup h a its.toArray
 |.dK kvs=>kvs.length≤sizeLine∧(a==sysModules)=false∧∃ vs,KV kvs vs∧h.DictOf (mixKind P w) a vs
 |.dT kvs=>kvs.length≤sizeLine∧(a==sysModules)=false∧∃ xs:List (List Key×Addr×Value),
   Paired (fun(p:List Key×V) (q:List Key×Addr×Value)=>p.1=q.1∧H q.2.1=some (.tup (p.1.map kV))∧RelV p.2 q.2.2) kvs xs∧
   ∃ o es ep,h.get? a=some o∧o.ExactDict∧o.data=.dict es ep∧es.toList=xs.map (entryOfKey (tupleKind (mixKind P w)))∧(xs.map (·.1)).Nodup
 |.set S n=>h.SetOf (intKind P w) a S n
 |.ins C dx fs=>H dx=some (.own a)∧fs.length≤1000∧dx≠a∧h.get? a=some (PySem.W.instObj C dx)∧
   ∃ mA,h.Ns1 dx mA∧(∀ f,RelO (fs.lookup f) (mA f))∧PySem.Within mA (fs.map (·.1))
 |.own _=>∃ o,h.get? a=some o
 |.xd fs=>∃ mA,h.Ns1 a mA∧∀ f,RelO (fs.lookup f) (mA f)
 |.rng lo hi=>∃ t u v,h.get? a=some { cls:=.type "range",data:=.fields #[.int lo t,.int hi u,.int 1 v] }
 |.frz o u=>h.get? a=some o∧ObjOk H h a u
 |.tbl ps=>h.get? a=some { cls:=.none,data:=.fields ps }
 |.met f x=>h.get? a=some (PySem.W.methodObj (.ref f) (.ref x))
 |.ext φ=>φ h∧(∃ o,h.get? a=some o)∧∀ h1 h2:Heap,φ h1→(∀ o,h1.get? a=some o→h2.get? a=some o)→φ h2
def HOk(H:Hp)(h:Heap):Prop:=∀ a o,H a=some o→ObjOk P w H h a o
end
section
variable {P:Program}{w:World}{H H':Hp}{h h':Heap}{a:Addr}{o:HO}
theorem ObjOk.lt(x:ObjOk P w H h a o):a<h.objs.size:=by
 cases o with
 |lst xs=>obtain⟨_,_,_,_,e⟩:=x; exact Heap.lt_size e
 |tup xs=>obtain⟨_,_,_,p⟩:=x; exact p.lt
 |dK kvs=>obtain⟨_,_,_,_,o,_,_,e,_⟩:=x; exact Heap.lt_size e
 |dT kvs=>obtain⟨_,_,_,_,o,_,_,e,_⟩:=x; exact Heap.lt_size e
 |set S n=>obtain⟨o,_,_,_,e,_⟩:=x; exact Heap.lt_size e
 |ins C dx fs=>obtain⟨_,_,_,e,_⟩:=x; exact Heap.lt_size e
 |own y=>obtain⟨_,e⟩:=x; exact Heap.lt_size e
 |xd fs=>obtain⟨_,⟨_,_,_,e,_⟩,_⟩:=x; exact Heap.lt_size e
 |rng lo hi=>obtain⟨_,_,_,e⟩:=x; exact Heap.lt_size e
 |frz ob u=>obtain⟨e,_⟩:=x; exact Heap.lt_size e
 |tbl ps=>exact Heap.lt_size (show h.get? a=some _ from x)
 |met f y=>exact Heap.lt_size (show h.get? a=some _ from x)
 |ext φ=>obtain⟨_,⟨_,e⟩,_⟩:=x; exact Heap.lt_size e
theorem Paired.mapP{α β:Type}{F G:α→β→Prop}:∀ {l₁:List α}{l₂:List β},Paired F l₁ l₂→(∀ a b,F a b→G a b)→Paired G l₁ l₂
 |_,_,.nil,_=>.nil
 |_,_,.cons r t,f=>.cons (f _ _ r) (Paired.mapP t f)
theorem ObjOk.stay(x:ObjOk P w H h a o)(k:∀ b u,(b=a∨H b=some (.own a))→h.get? b=some u→h'.get? b=some u)
  (ho:∀ b,H b=some (.own a)→H' b=some (.own a)) (ht:∀ b xs,H b=some (.tup xs)→H' b=some (.tup xs)):ObjOk P w H' h' a o:=by
 induction o with
 |lst xs=>obtain⟨z,its,n,r,e⟩:=x; exact⟨z,its,n,r,k _ _ (.inl rfl) e⟩
 |tup xs=>obtain⟨z,its,r,ob,e,c⟩:=x; exact⟨z,its,r,ob,k _ _ (.inl rfl) e,c⟩
 |dK kvs=>obtain⟨z,y,vs,r,ob,es,ep,e,c⟩:=x; exact⟨z,y,vs,r,ob,es,ep,k _ _ (.inl rfl) e,c⟩
 |dT kvs=>
  obtain⟨z,y,xs,r,ob,es,ep,e,c⟩:=x
  exact⟨z,y,xs,Paired.mapP r fun p q z=>⟨z.1,ht _ _ z.2.1,z.2.2⟩,ob,es,ep,k _ _ (.inl rfl) e,c⟩
 |set S n=>obtain⟨ob,es,ep,t,e,c⟩:=x; exact⟨ob,es,ep,t,k _ _ (.inl rfl) e,c⟩
 |ins C dx fs=>
  obtain⟨d,z,ne,e,mA,⟨od,es,ep,e2,c⟩,r⟩:=x
  exact⟨ho _ d,z,ne,k _ _ (.inl rfl) e,mA,⟨od,es,ep,k _ _ (.inr d) e2,c⟩,r⟩
 |own y=>obtain⟨ob,e⟩:=x; exact⟨ob,k _ _ (.inl rfl) e⟩
 |xd fs=>obtain⟨mA,⟨od,es,ep,e,c⟩,r⟩:=x; exact⟨mA,⟨od,es,ep,k _ _ (.inl rfl) e,c⟩,r⟩
 |rng lo hi=>obtain⟨t,u,v,e⟩:=x; exact⟨t,u,v,k _ _ (.inl rfl) e⟩
 |frz ob u ih=>obtain⟨e,q⟩:=x; exact⟨k _ _ (.inl rfl) e,ih q⟩
 |tbl ps=>
  have e:h.get? a=some { cls:=.none,data:=.fields ps }:=x
  show h'.get? a=some { cls:=.none,data:=.fields ps }
  exact k a _ (.inl rfl) e
 |met f y=>
  have e:h.get? a=some (PySem.W.methodObj (.ref f) (.ref y)):=x
  show h'.get? a=some (PySem.W.methodObj (.ref f) (.ref y))
  exact k a _ (.inl rfl) e
 |ext φ=>obtain⟨p,⟨o,e⟩,st⟩:=x; exact⟨st _ _ p fun o q=>k _ _ (.inl rfl) q,⟨o,k _ _ (.inl rfl) e⟩,st⟩
theorem HOk.lt(x:HOk P w H h)(e:H a=some o):a<h.objs.size:=(x a o e).lt
theorem HOk.fresh(x:HOk P w H h)(e:h.objs.size≤a):H a=none:=by
 cases q:H a with
 |none=>rfl
 |some u=>exact absurd (Nat.lt_of_lt_of_le (x.lt q) e) (Nat.lt_irrefl _)
theorem HOk.kept(x:HOk P w H h)(k:∀ b u,h.get? b=some u→h'.get? b=some u):HOk P w H h':=fun a o e=>
 (x a o e).stay (fun b u _ q=>k b u q) (fun _ q=>q) fun _ _ q=>q
theorem HOk.laid(x:HOk P w H h)(k:∀ b u,h.get? b=some u→h'.get? b=some u)(hp:h.objs.size≤a)(new:ObjOk P w (upd H a o) h' a o):HOk P w (upd H a o) h':=fun b u e=>by
 have hn:=x.fresh hp
 by_cases hb:b=a
 ·subst hb; rw[upd_same]at e; cases e; exact new
 ·rw[upd_ne hb]at e
  exact(x b u e).stay (fun c v _ q=>k c v q) (fun c q=>by rw[upd_ne (ne_of_none q hn)]; exact q) fun c xs q=>by rw[upd_ne (ne_of_none q hn)]; exact q
end
def Rd(H:Hp)(a:Addr)(u:HO):Prop:=H a=some u∨∃ o,H a=some (.frz o u)
theorem Rd.of{H:Hp}{a:Addr}{u:HO}(h:H a=some u):Rd H a u:=.inl h
theorem Rd.ok{P:Program}{w:World}{H:Hp}{h:Heap}{a:Addr}{u:HO}(r:Rd H a u)(x:HOk P w H h):ObjOk P w H h a u:=by
 rcases r with r|⟨o,r⟩
 ·exact x a u r
 ·obtain⟨_,q⟩:=x a _ r
  exact q
noncomputable def Mut:Option HO→Prop
 |some (.lst _)=>True
 |some (.dK _)=>True
 |some (.dT _)=>True
 |some (.set _ _)=>True
 |some (.ins _ _ _)=>True
 |some (.ext _)=>True
 |_=>False
section
variable {P:Program}{w:World}{H:Hp}{h h':Heap}{x e:Addr}{o':HO}
theorem HOk.write(ok:HOk P w H h)(mu:Mut (H x))(he:e=x∨H e=some (.own x))(k:∀ b u,b≠e→h.get? b=some u→h'.get? b=some u)(heo:∃ u,h'.get? e=some u)
  (new:ObjOk P w (upd H x o') h' x o'):HOk P w (upd H x o') h':=fun b u q=>by
 have nown:∀ c y,H c=some (.own y)→c≠x:=fun c y r z=>by subst z; rw[r]at mu; exact mu
 have ntup:∀ c xs,H c=some (.tup xs)→c≠x:=fun c xs r z=>by subst z; rw[r]at mu; exact mu
 by_cases hb:b=x
 ·subst hb; rw[upd_same]at q; cases q; exact new
 ·rw[upd_ne hb]at q
  by_cases hbe:b=e
  ·have q':H b=some (.own x):=by
    rcases he with z|z
    ·exact absurd (hbe.trans z) hb
    ·rw[hbe]; exact z
   rw[q]at q'; cases q'
   obtain⟨v,hv⟩:=heo
   exact⟨v,by rw[hbe]; exact hv⟩
  ·refine(ok b u q).stay (fun c v hc r=>k c v ?_ r) (fun c r=>by rw[upd_ne (nown c b r)]; exact r) fun c xs r=>by rw[upd_ne (ntup c xs r)]; exact r
   rcases hc with rfl|hc
   ·exact hbe
   ·rintro rfl
    rcases he with z|z
    ·exact nown c b hc z
    ·rw[hc]at z; cases z; exact hb rfl
end
structure Un (fs ex:List Addr) (H H':Hp) (h h':Heap):Prop where
 keep:∀ b o,h.get? b=some o→H b=none→b ∉ fs→b ∉ ex→h'.get? b=some o
 slot:∀ b o,h.get? b=some o→H b=none→b∈fs→b ∉ ex→∃ sl,h'.get? b=some { o with slots:=sl }
 free:∀ b o,h.get? b=some o→H b=none→b ∉ ex→H' b=none
 there:∀ b o,h.get? b=some o→b ∉ ex→∃ o',h'.get? b=some o'
 tups:∀ b xs,H b=some (.tup xs)→H' b=some (.tup xs)
 frzs:∀ b o u,H b=some (.frz o u)→H' b=some (.frz o u)
 tbls:∀ b ps,H b=some (.tbl ps)→∃ more,H' b=some (.tbl (ps++more))
section
variable {fs fs' ex ex':List Addr}{H H1 H2:Hp}{h h1 h2 h':Heap}{a x e:Addr}{o:HO}
theorem Un.any(u:Un fs ex H H1 h h1){b:Addr}{ob:Obj}(q:h.get? b=some ob)(n:H b=none)(hx:b ∉ ex):∃ sl,h1.get? b=some { ob with slots:=sl }:=by
 by_cases hb:b∈fs
 ·exact u.slot b ob q n hb hx
 ·exact⟨ob.slots,u.keep b ob q n hb hx⟩
theorem Un.trans(a:Un fs ex H H1 h h1)(b:Un fs ex H1 H2 h1 h2):Un fs ex H H2 h h2 where
 keep:=fun c ob q n hc hx=>b.keep c ob (a.keep c ob q n hc hx) (a.free c ob q n hx) hc hx
 slot:=fun c ob q n hc hx=>by
  obtain⟨sl,e1⟩:=a.slot c ob q n hc hx
  obtain⟨sl',e2⟩:=b.slot c _ e1 (a.free c ob q n hx) hc hx
  exact⟨sl',e2⟩
 free:=fun c ob q n hx=>by
  obtain⟨o',e1⟩:=a.there c ob q hx
  exact b.free c o' e1 (a.free c ob q n hx) hx
 there:=fun c ob q hx=>by
  obtain⟨o',e1⟩:=a.there c ob q hx
  exact b.there c o' e1 hx
 tups:=fun c xs q=>b.tups c xs (a.tups c xs q)
 frzs:=fun c ob xs q=>b.frzs c ob xs (a.frzs c ob xs q)
 tbls:=fun c ps q=>by
  obtain⟨m1,e1⟩:=a.tbls c ps q
  obtain⟨m2,e2⟩:=b.tbls c _ e1
  exact⟨m1++m2,by rw[e2,Array.append_assoc]⟩
theorem Un.kept(k:∀ b u,h.get? b=some u→h'.get? b=some u):Un fs ex H H h h':=
 ⟨fun b ob q _ _ _=>k b ob q,fun b ob q _ _ _=>⟨ob.slots,k b ob q⟩,fun _ _ _ n _=>n,fun b ob q _=>⟨ob,k b ob q⟩,fun _ _ q=>q,fun _ _ _ q=>q,fun _ ps q=>⟨#[],by rw[q]; simp⟩⟩
theorem Un.refl:Un fs ex H H h h:=Un.kept fun _ _ q=>q
theorem Un.laid(k:∀ b u,h.get? b=some u→h'.get? b=some u)(hp:h.objs.size≤a)(hn:H a=none):Un fs ex H (upd H a o) h h' where
 keep:=fun b u q _ _ _=>k b u q
 slot:=fun b u q _ _ _=>⟨u.slots,k b u q⟩
 free:=fun b u q n _=>by rw[upd_ne (Nat.ne_of_lt (Nat.lt_of_lt_of_le (Heap.lt_size q) hp))]; exact n
 there:=fun b u q _=>⟨u,k b u q⟩
 tups:=fun b xs q=>by rw[upd_ne (ne_of_none q hn)]; exact q
 frzs:=fun b u xs q=>by rw[upd_ne (ne_of_none q hn)]; exact q
 tbls:=fun b ps q=>⟨#[],by rw[upd_ne (ne_of_none q hn),q]; simp⟩
theorem Un.write(mu:Mut (H x))(he:e=x∨H e=some (.own x))(k:∀ b u,b≠e→h.get? b=some u→h'.get? b=some u)(heo:∃ u,h'.get? e=some u):Un fs ex H (upd H x o) h h':=by
 have hx:∀ b,H b=none→b≠x:=fun b n z=>by subst z; rw[n]at mu; exact mu
 have hb:∀ b,H b=none→b≠e:=fun b n z=>by
  subst z
  rcases he with r|r
  ·exact hx b n r
  ·rw[n]at r; cases r
 have hm:∀ b u,H b=some u→¬ Mut (some u)→b≠x:=fun b u q nm z=>by subst z; rw[q]at mu; exact nm mu
 refine⟨fun b u q n _ _=>k b u (hb b n) q,fun b u q n _ _=>⟨u.slots,k b u (hb b n) q⟩,fun b u q n _=>by rw[upd_ne (hx b n)]; exact n,fun b u q _=>?_,
  fun b xs q=>by rw[upd_ne (hm b _ q fun z=>z)]; exact q,fun b u xs q=>by rw[upd_ne (hm b _ q fun z=>z)]; exact q,fun b ps q=>⟨#[],by rw[upd_ne (hm b _ q fun z=>z),q]; simp⟩⟩
 by_cases hbe:b=e
 ·subst hbe; exact heo
 ·exact⟨u,k b u hbe q⟩
theorem Un.mono(u:Un fs ex H H1 h h1)(hs:∀ b∈fs,b∈fs')(hx:∀ b∈ex,b∈ex'):Un fs' ex' H H1 h h1:=
 ⟨fun b ob q n hb he=>u.keep b ob q n (fun z=>hb (hs b z)) fun z=>he (hx b z),fun _ _ q n _ he=>u.any q n fun z=>he (hx _ z),fun b ob q n he=>u.free b ob q n fun z=>he (hx b z),fun b ob q he=>u.there b ob q fun z=>he (hx b z),u.tups,u.frzs,u.tbls⟩
end
noncomputable def trk(h:Heap)(H:Hp):List Addr:=(List.range h.objs.size).filter fun a=>(H a).isSome
noncomputable def hidT(h:Heap)(H:Hp):Heap:=PySem.W.hideAll h (trk h H)
theorem hidT_size(h:Heap)(H:Hp):(hidT h H).objs.size=h.objs.size:=PySem.W.hideAll_size _ _
theorem hidT_get{h:Heap}{H:Hp}{b:Addr}{o:Obj}(e:h.get? b=some o)(n:H b=none):(hidT h H).get? b=some o:=
 PySem.W.hideAll_get _ e fun hm=>by
  have q:(H b).isSome=true:=(List.mem_filter.mp hm).2
  rw[n]at q; simp at q
theorem of_hidT{h:Heap}{H:Hp}{b:Addr}{o:Obj}(e:(hidT h H).get? b=some o):h.get? b=some o∧H b=none:=by
 have e':h.get? b=some o:=PySem.W.of_hideAll (trk h H) e
 refine⟨e',?_⟩
 cases q:H b with
 |none=>rfl
 |some x=>
  have hm:b∈trk h H:=List.mem_filter.mpr ⟨List.mem_range.mpr (Heap.lt_size e'),by simp[q]⟩
  have z:(hidT h H).get? b=none:=PySem.W.hideAll_none (trk h H) hm
  rw[z]at e; cases e
noncomputable def allNews(g h:Heap)(L:Addr):List (Addr×Obj):=(List.range h.objs.size).filterMap fun a=>if a=L∨(g.get? a).isSome=true then none else(h.get? a).map fun o=>(a,o)
noncomputable def rest(g h:Heap)(L d:Addr):List (Addr×Obj):=(allNews g h L).filter fun p=>decide (p.1≠d)
end L2
namespace L2
open PySem PySem.Spec PyProof.Rows
structure Mod (K:PySem.W.Frag) (mg:Str→Option Value) (base:Heap):Prop where
 kin:K.In base
 glob:base.Ns mainGlobals mg
 blt:∃ mb,base.Ns builtinsNs mb∧∀ x:Str,x ≠ "__name__"→mb x=bootBuiltins x
 nolimit:base.NoLimit
structure Cx where
 prog:Program
 w:World
 K:PySem.W.Frag
 mg:Str→Option Value
 base:Heap
 A:Around
 N:List Str
 s₀:Shared
 H₀:Hp
 env:Env
 outer:List Env
 stack:List Env
 ex:List Addr
 fn:Str→Bool
 calm:Bool
 pn:List (Addr×Obj)
 xe:Value→Shared→Prop
noncomputable def frs(l:List Env):List Addr:=l.filterMap (·.frame)
noncomputable abbrev Cx.fs(X:Cx):List Addr:=frs X.outer
def Vis(sc:Scope)(x:Str):Prop:=sc.names.lookup x=some .local∨sc.names.lookup x=some .cell∨sc.names.lookup x=some .free
def Loc(sc:Scope)(x:Str):Prop:=sc.names.lookup x=some .local∨sc.names.lookup x=some .cell
def Look(env:Env)(h:Heap)(m:Str→Option Value)(x:Str)(u:Value):Prop:=
 (env.kindOf x=some .local∧m x=some u)∨((env.kindOf x=some .cell∨env.kindOf x=some .free)∧∃ c,env.cells.lookup x=some c∧h.IsCell c (some u))
structure Cx.Ok (X:Cx):Prop where
 mod:Mod X.K X.mg X.base
 kind:X.env.scope.kind=.function
 glob:X.env.globals=mainGlobals
 blt:X.env.builtins=builtinsNs
 above:X.s₀.heap.objs.size≤X.env.locals
 inj:∀ x y c,X.env.cells.lookup x=some c→X.env.cells.lookup y=some c→x=y
 has:∀ x,(X.env.kindOf x=some .cell∨X.env.kindOf x=some .free)→∃ c,X.env.cells.lookup x=some c
 cab:∀ x c,X.fn x=true→X.env.cells.lookup x=some c→X.s₀.heap.objs.size≤c
 hd:X.calm=true→X.A.handled=none
 frames:X.A.frames=some X.stack
 stk:X.stack=X.outer∨(X.stack=X.env::X.outer∧X.env.frame=some X.env.locals)
 exf:∀ b∈X.ex,b≠X.env.locals∧∀ x c,X.env.cells.lookup x=some c→c≠b
 bs:∀ b o,X.base.get? b=some o→X.s₀.heap.get? b=some o∧X.H₀ b=none
 bsz:X.base.objs.size≤X.s₀.heap.objs.size
 noex:∀ b o,X.base.get? b=some o→b ∉ X.ex
 exfs:∀ b∈X.ex,b ∉ X.fs
 funs:X.s₀.heap.FunFrames X.base X.outer
 frf:∀ b∈X.fs,X.H₀ b=none
structure Inv (X:Cx) (pins:List (Addr×Obj)) (σ:List (Option V)) (H:Hp) (s:Shared):Prop where
 ok:X.Ok
 os:s.os=X.s₀.os
 bare:AllBare s.gens
 base:Un X.fs X.ex X.H₀ H X.s₀.heap s.heap
 loc:∃ m,s.heap.Ns X.env.locals m∧∀ (i:Nat) (x:Str) (v:V),X.N[i]?=some x→σ[i]?=some (some v)→Vis X.env.scope x→∃ u,RelV v u∧Look X.env s.heap m x u
 cell:∀ x c,X.env.cells.lookup x=some c→∃ v,s.heap.IsCell c v
 free:H X.env.locals=none
 freeC:∀ x c,X.env.cells.lookup x=some c→H c=none
 pin:∀ p∈X.pn++pins,s.heap.get? p.1=some p.2∧H p.1=none∧p.1≠X.env.locals∧p.1 ∉ X.fs∧∀ v,p.2.data≠.cell v
 hok:HOk X.prog X.w H s.heap
 len:σ.length=X.N.length
section
variable {X:Cx}{pins:List (Addr×Obj)}{σ:List (Option V)}{H H':Hp}{s:Shared}{h':Heap}
theorem Cx.Ok.nofr(ok:X.Ok){b:Addr}{o:Obj}(e:X.base.get? b=some o):b ∉ X.fs:=fun hb=>by
 have:=(ok.funs.mem hb).1
 rw[e]at this; cases this
theorem Inv.bs(I:Inv X pins σ H s):∀ b o,X.base.get? b=some o→s.heap.get? b=some o∧H b=none:=fun b o e=>
 ⟨I.base.keep b o (I.ok.bs b o e).1 (I.ok.bs b o e).2 (I.ok.nofr e) (I.ok.noex b o e),I.base.free b o (I.ok.bs b o e).1 (I.ok.bs b o e).2 (I.ok.noex b o e)⟩
theorem Inv.bk(I:Inv X pins σ H s):∀ b o,X.base.get? b=some o→s.heap.get? b=some o:=fun b o e=>(I.bs b o e).1
theorem Inv.mod(I:Inv X pins σ H s):Mod X.K X.mg X.base:=I.ok.mod
theorem Inv.kIn(I:Inv X pins σ H s):X.K.In s.heap:=I.ok.mod.kin.keeps I.bk
theorem Inv.nolimit(I:Inv X pins σ H s):s.heap.NoLimit:=I.ok.mod.nolimit.keeps I.bk
theorem Inv.fr(I:Inv X pins σ H s):∃ m,Fr X.base X.env.locals s.heap m:=
 let ⟨m,hn,_⟩:=I.loc
 ⟨m,hn,I.bk,Nat.le_trans I.ok.bsz I.ok.above⟩
theorem Inv.lt(I:Inv X pins σ H s):X.env.locals<s.heap.objs.size:=let ⟨_,hn,_⟩:=I.loc; hn.lt
theorem Inv.sz(I:Inv X pins σ H s):X.s₀.heap.objs.size≤s.heap.objs.size:=Nat.le_trans I.ok.above (Nat.le_of_lt I.lt)
theorem Inv.nofs(I:Inv X pins σ H s){a:Addr}(h:s.heap.objs.size≤a):a ∉ X.fs:=fun hb=>by
 obtain⟨_,o,ho,_⟩:=I.ok.funs.mem hb
 exact absurd (Nat.lt_of_lt_of_le (Heap.lt_size ho) (Nat.le_trans I.sz h)) (Nat.lt_irrefl _)
theorem Inv.cne(I:Inv X pins σ H s):∀ x c,X.env.cells.lookup x=some c→c≠X.env.locals:=fun x c e z=>by
 obtain⟨v,o,ho,hd⟩:=I.cell x c e
 obtain⟨m,⟨o',es,ep,ho',hd',_⟩,_⟩:=I.loc
 rw[z,ho']at ho; cases ho; rw[hd']at hd; cases hd
theorem Inv.funs(I:Inv X pins σ H s):s.heap.FunFrames X.base X.outer:=by
 have all:∀ (l:List Env),(∀ b∈frs l,b∈X.fs)→X.s₀.heap.FunFrames X.base l→s.heap.FunFrames X.base l:=by
  intro l
  induction l with
  |nil=>intro _ _; trivial
  |cons env r ih=>
   intro hs hl
   obtain⟨hk,⟨L,o,hf,hn,ho,hd⟩,hr⟩:=hl
   have hL:L∈X.fs:=hs L (by unfold frs; rw[List.filterMap_cons,hf]; exact List.mem_cons_self)
   obtain⟨sl,e⟩:=I.base.slot L o ho (I.ok.frf L hL) hL fun z=>I.ok.exfs L z hL
   exact⟨hk,⟨L,_,hf,hn,e,hd⟩,ih (fun b hb=>hs b (by unfold frs; rw[List.filterMap_cons,hf]; exact List.mem_cons_of_mem _ hb)) hr⟩
 exact all X.outer (fun _ hb=>hb) I.ok.funs
theorem Inv.stack(I:Inv X pins σ H s):s.heap.FunFrames X.base X.stack:=by
 rcases I.ok.stk with e|⟨e,hf⟩
 ·rw[e]; exact I.funs
 ·rw[e]
  obtain⟨m,hn,_⟩:=I.loc
  refine .cons (by rw[I.ok.kind]; decide) hf hn ?_ I.funs
  exact Heap.get?_none_of_le (Nat.le_trans I.ok.bsz I.ok.above)
theorem Inv.stkSub(I:Inv X pins σ H s):∀ b∈frs X.stack,b∈X.env.locals::X.fs:=fun b hb=>by
 rcases I.ok.stk with e|⟨e,hf⟩
 ·rw[e]at hb; exact List.mem_cons_of_mem _ hb
 ·rw[e]at hb
  unfold frs at hb
  rw[List.filterMap_cons,hf]at hb
  exact hb
theorem Inv.stkFree(I:Inv X pins σ H s):∀ b∈frs X.stack,H b=none:=fun b hb=>by
 rcases List.mem_cons.mp (I.stkSub b hb) with e|hb
 ·rw[e]; exact I.free
 ·obtain⟨_,o,ho,_⟩:=I.ok.funs.mem hb
  exact I.base.free b o ho (I.ok.frf b hb) fun z=>I.ok.exfs b z hb
theorem Inv.step{g':Array GenState}{t':Nat}{d':Drawn}{ch:List Addr}(I:Inv X pins σ H s)
  (hch:∀ b∈ch,(b∈X.ex∨X.s₀.heap.objs.size≤b)∧b≠X.env.locals∧(∀ x c,X.env.cells.lookup x=some c→c≠b)∧∀ p∈X.pn++pins,p.1≠b)
  (keep:∀ b o,b≠X.env.locals→b ∉ X.fs→b ∉ ch→s.heap.get? b=some o→H b=none→h'.get? b=some o)
  (slot:∀ b o,b≠X.env.locals→b∈X.fs→b ∉ ch→s.heap.get? b=some o→H b=none→∃ sl,h'.get? b=some { o with slots:=sl }) (free:∀ b o,b ∉ ch→s.heap.get? b=some o→H b=none→H' b=none)
  (there:∀ b o,b ∉ ch→s.heap.get? b=some o→∃ o',h'.get? b=some o')
  (tups:∀ b xs,H b=some (.tup xs)→H' b=some (.tup xs)) (frzs:∀ b o u,H b=some (.frz o u)→H' b=some (.frz o u)) (tbls:∀ b ps,H b=some (.tbl ps)→∃ more,H' b=some (.tbl (ps++more)))
  (ns:∀ m,s.heap.Ns X.env.locals m→h'.Ns X.env.locals m) (hok:HOk X.prog X.w H' h') (hg:AllBare g') :
  Inv X pins σ H' { s with heap:=h',gens:=g',drawn:=d',toks:=t' }:=by
 have neL:∀ b o,X.s₀.heap.get? b=some o→b≠X.env.locals:=fun b o e=>Nat.ne_of_lt (Nat.lt_of_lt_of_le (Heap.lt_size e) I.ok.above)
 have neC:∀ b o,X.s₀.heap.get? b=some o→b ∉ X.ex→b ∉ ch:=fun b o e hx hb=>by
  rcases (hch b hb).1 with z|z
  ·exact hx z
  ·exact absurd (Nat.lt_of_lt_of_le (Heap.lt_size e) z) (Nat.lt_irrefl _)
 have cellK:∀ x c,X.env.cells.lookup x=some c→∀ v,s.heap.IsCell c v→h'.IsCell c v:=fun x c e v ⟨o,ho,hd⟩=>by
  have nch:c ∉ ch:=fun z=>(hch c z).2.2.1 x c e rfl
  by_cases hc:c∈X.fs
  ·obtain⟨sl,q⟩:=slot c o (I.cne x c e) hc nch ho (I.freeC x c e)
   exact⟨_,q,hd⟩
  ·exact⟨o,keep c o (I.cne x c e) hc nch ho (I.freeC x c e),hd⟩
 refine⟨I.ok,I.os,hg,⟨fun b o e n hb hx=>?_,fun b o e n hb hx=>?_,fun b o e n hx=>?_,fun b o e hx=>?_,fun b xs e=>tups b xs (I.base.tups b xs e),fun b o xs e=>frzs b o xs (I.base.frzs b o xs e),fun b ps e=>?_⟩,?_,fun x c e=>?_,?_,fun x c e=>?_,fun p hp=>?_,hok,I.len⟩
 ·exact keep b o (neL b o e) hb (neC b o e hx) (I.base.keep b o e n hb hx) (I.base.free b o e n hx)
 ·obtain⟨sl,e1⟩:=I.base.slot b o e n hb hx
  obtain⟨sl',e2⟩:=slot b _ (neL b o e) hb (neC b o e hx) e1 (I.base.free b o e n hx)
  exact⟨sl',e2⟩
 ·obtain⟨o',e1⟩:=I.base.there b o e hx
  exact free b o' (neC b o e hx) e1 (I.base.free b o e n hx)
 ·obtain⟨o',e1⟩:=I.base.there b o e hx
  exact there b o' (neC b o e hx) e1
 ·obtain⟨m1,e1⟩:=I.base.tbls b ps e
  obtain⟨m2,e2⟩:=tbls b _ e1
  exact⟨m1++m2,by rw[e2,Array.append_assoc]⟩
 ·obtain⟨m,hn,hl⟩:=I.loc
  refine⟨m,ns m hn,fun i x v e1 e2 e3=>?_⟩
  obtain⟨u,r,l⟩:=hl i x v e1 e2 e3
  refine⟨u,r,?_⟩
  rcases l with l|⟨k,c,e,z⟩
  ·exact .inl l
  ·exact .inr ⟨k,c,e,cellK x c e _ z⟩
 ·obtain⟨v,z⟩:=I.cell x c e
  exact⟨v,cellK x c e v z⟩
 ·obtain⟨m,⟨o,_,_,ho,_⟩,_⟩:=I.loc
  exact free _ o (fun z=>(hch _ z).2.1 rfl) ho I.free
 ·obtain⟨v,o,ho,hd⟩:=I.cell x c e
  exact free c o (fun z=>(hch c z).2.2.1 x c e rfl) ho (I.freeC x c e)
 ·obtain⟨e,n,ne,nf,d⟩:=I.pin p hp
  have nch:p.1 ∉ ch:=fun z=>(hch p.1 z).2.2.2 p hp rfl
  exact⟨keep p.1 p.2 ne nf nch e n,free p.1 p.2 nch e n,ne,nf,d⟩
theorem Inv.un{t':Nat}(I:Inv X pins σ H s)(u:Un X.fs [] H H' s.heap h')(hok:HOk X.prog X.w H' h'):Inv X pins σ H' { s with heap:=h',toks:=t' }:=by
 obtain⟨m,⟨o,es,ep,ho,r⟩,_⟩:=id I.loc
 obtain⟨sl,hL⟩:=u.any ho I.free (by simp)
 exact I.step (g':=s.gens) (d':=s.drawn) (ch:=[]) (fun _ z=>nomatch z) (fun b o _ hb _ e n=>u.keep b o e n hb (by simp)) (fun b o _ hb _ e n=>u.slot b o e n hb (by simp)) (fun b o _ e n=>u.free b o e n (by simp)) (fun b o _ e=>u.there b o e (by simp)) u.tups u.frzs u.tbls (fun m' hm=>by
  obtain⟨o',es',ep',ho',r'⟩:=hm
  rw[ho]at ho'; cases ho'
  exact⟨_,es',ep',hL,r'⟩) hok I.bare
theorem Inv.call{g':Array GenState}{t':Nat}{d':Drawn}{ch:List Addr}(I:Inv X pins σ H s)(u:Un (frs X.stack) ch H H' s.heap h')(hok:HOk X.prog X.w H' h')(hg:AllBare g')
  (hch:∀ b∈ch,(b∈X.ex∨X.s₀.heap.objs.size≤b)∧b≠X.env.locals∧(∀ x c,X.env.cells.lookup x=some c→c≠b)∧∀ p∈X.pn++pins,p.1≠b) :
  Inv X pins σ H' { s with heap:=h',gens:=g',drawn:=d',toks:=t' }:=by
 obtain⟨m,⟨o,es,ep,ho,r⟩,_⟩:=id I.loc
 obtain⟨sl,hL⟩:=u.any ho I.free fun z=>(hch _ z).2.1 rfl
 exact I.step (ch:=ch) hch (fun b o hL hb hc e n=>u.keep b o e n (fun z=>(List.mem_cons.mp (I.stkSub b z)).elim hL hb) hc) (fun b o _ _ hc e n=>u.any e n hc) (fun b o hc e n=>u.free b o e n hc) (fun b o hc e=>u.there b o e hc) u.tups u.frzs u.tbls (fun m' hm=>by
  obtain⟨o',es',ep',ho',r'⟩:=hm
  rw[ho]at ho'; cases ho'
  exact⟨_,es',ep',hL,r'⟩) hok hg
theorem Inv.turned{t':Nat}{it:Addr}(I:Inv X pins σ H s)(k:∀ b o,b≠it→s.heap.get? b=some o→h'.get? b=some o)(hn:H it=none)(hL:it≠X.env.locals)
  (h1:it∈X.ex∨X.s₀.heap.objs.size≤it) (h2:∀ x c,X.env.cells.lookup x=some c→c≠it) (h3:∀ p∈X.pn++pins,p.1≠it):Inv X pins σ H { s with heap:=h',toks:=t' }:=by
 have nit:∀ b u,H b=some u→b≠it:=fun b u e z=>by rw[z,hn]at e; cases e
 refine I.step (g':=s.gens) (d':=s.drawn) (ch:=[it]) (fun b hb=>?_) (fun b o _ _ hc e _=>k b o (fun z=>hc (by simp[z])) e) (fun b o _ _ hc e _=>⟨o.slots,k b o (fun z=>hc (by simp[z])) e⟩) (fun _ _ _ _ n=>n)
  (fun b o hc e=>⟨o,k b o (fun z=>hc (by simp[z])) e⟩) (fun _ _ e=>e) (fun _ _ _ e=>e) (fun b ps e=>⟨#[],by rw[e]; simp⟩) (fun m hm=>?_) (fun b u e=>?_) I.bare
 ·have e:b=it:=by simpa using hb
  subst e
  exact⟨h1,hL,h2,h3⟩
 ·obtain⟨o,es,ep,ho,r⟩:=hm
  exact⟨o,es,ep,k _ o (Ne.symm hL) ho,r⟩
 ·refine(I.hok b u e).stay (fun c v hc q=>k c v ?_ q) (fun _ q=>q) fun _ _ q=>q
  rcases hc with z|z
  ·rw[z]; exact nit b u e
  ·exact nit c _ z
theorem Inv.tok(I:Inv X pins σ H s)(t:Nat):Inv X pins σ H { s with toks:=t }:=I.un (h':=s.heap) (t':=t) Un.refl I.hok
theorem Inv.kept{t':Nat}(I:Inv X pins σ H s)(k:∀ b u,s.heap.get? b=some u→h'.get? b=some u):Inv X pins σ H { s with heap:=h',toks:=t' }:=I.un (Un.kept k) (I.hok.kept k)
theorem Inv.laid{a:Addr}{o:HO}{t':Nat}(I:Inv X pins σ H s)(k:∀ b u,s.heap.get? b=some u→h'.get? b=some u)(hp:s.heap.objs.size≤a)(new:ObjOk X.prog X.w (upd H a o) h' a o):
  Inv X pins σ (upd H a o) { s with heap:=h',toks:=t' }:=I.un (Un.laid k hp (I.hok.fresh hp)) (I.hok.laid k hp new)
theorem Inv.write{x e:Addr}{o:HO}{t':Nat}(I:Inv X pins σ H s)(mu:Mut (H x))(he:e=x∨H e=some (.own x))(k:∀ b u,b≠e→s.heap.get? b=some u→h'.get? b=some u)(heo:∃ u,h'.get? e=some u)
  (new:ObjOk X.prog X.w (upd H x o) h' x o):Inv X pins σ (upd H x o) { s with heap:=h',toks:=t' }:=I.un (Un.write mu he k heo) (I.hok.write mu he k heo new)
theorem Inv.pins_of{pins':List (Addr×Obj)}(I:Inv X pins σ H s)(h:∀ p∈pins',s.heap.get? p.1=some p.2∧H p.1=none∧p.1≠X.env.locals∧p.1 ∉ X.fs∧∀ v,p.2.data≠.cell v):Inv X pins' σ H s:=
 ⟨I.ok,I.os,I.bare,I.base,I.loc,I.cell,I.free,I.freeC,fun p hp=>(List.mem_append.mp hp).elim (fun z=>I.pin p (List.mem_append_left _ z)) (h p),I.hok,I.len⟩
theorem nodup_ix{N:List Str}(hN:N.Nodup){i j:Nat}{x:Str}(a:N[i]?=some x)(b:N[j]?=some x):i=j:=by
 obtain⟨h1,e1⟩:=List.getElem?_eq_some_iff.mp a
 obtain⟨h2,e2⟩:=List.getElem?_eq_some_iff.mp b
 exact(List.getElem_inj hN).mp (e1.trans e2.symm)
theorem store_ok2{M:Model}{A:Around}{E:Value→Shared→Prop}{i:Nat}{x:Str}{v:V}{u:Value}{Q:Unit→Shared→Prop}(I:Inv X pins σ H s)(hN:X.N.Nodup)(hi:X.N[i]?=some x)(hx:Loc X.env.scope x)(r:RelV v u)
  (h:∀ s',Inv X pins (σ.set i (some v)) H s'→(∃ a,Heap.SameBut a s.heap s'.heap∧(a=X.env.locals∨X.env.cells.lookup x=some a))→Q () s') (hf:X.fn x=true∨X.env.scope.names.lookup x=some .local):wpAny M A (storeName X.env x u) Q E s:=by
 obtain⟨m,hn,hl⟩:=id I.loc
 have hcls:(X.env.scope.kind==.class||(X.env.scope.kind==.module&&X.env.locals != X.env.globals))=false:=by rw[I.ok.kind]; rfl
 have hiσ:i<σ.length:=by rw[I.len]; exact(List.getElem?_eq_some_iff.mp hi).1
 have cne:=I.cne
 have tracked:∀ {a:Addr}{h':Heap},(∃ o,s.heap.get? a=some o∧H a=none)→Heap.SameBut a s.heap h'→HOk X.prog X.w H h':=fun {a h'} ha hs b ob e=>by
  obtain⟨_,_,hfree⟩:=ha
  refine(I.hok b ob e).stay (fun c w' hc q=>(hs.2 c ?_).trans q) (fun _ q=>q) fun _ _ q=>q
  rintro rfl
  rcases hc with rfl|hc
  ·rw[hfree]at e; cases e
  ·rw[hfree]at hc; cases hc
 rcases hx with hk|hk
 ·refine wpAny_storeName_local hk hn (fun h' hn' hs=>?_) hcls
  obtain⟨oL,_,_,hoL,_⟩:=id hn
  refine h _ ⟨I.ok,I.os,I.bare,⟨fun b o e n hb hx=>?_,fun b o e n hb hx=>?_,I.base.free,fun b o e hx=>?_,I.base.tups,I.base.frzs,I.base.tbls⟩,⟨_,hn',fun j y v' e1 e2 e3=>?_⟩,fun y c e=>?_,I.free,I.freeC,fun p hp=>?_,tracked ⟨oL,hoL,I.free⟩ hs,by simpa using I.len⟩ ⟨_,hs,.inl rfl⟩
  ·exact(hs.2 b (Nat.ne_of_lt (Nat.lt_of_lt_of_le (Heap.lt_size e) I.ok.above))).trans (I.base.keep b o e n hb hx)
  ·obtain⟨sl,e1⟩:=I.base.slot b o e n hb hx
   exact⟨sl,(hs.2 b (Nat.ne_of_lt (Nat.lt_of_lt_of_le (Heap.lt_size e) I.ok.above))).trans e1⟩
  ·obtain⟨o',e1⟩:=I.base.there b o e hx
   exact⟨o',(hs.2 b (Nat.ne_of_lt (Nat.lt_of_lt_of_le (Heap.lt_size e) I.ok.above))).trans e1⟩
  ·by_cases hj:j=i
   ·subst hj
    rw[hi]at e1; cases e1
    rw[List.getElem?_set_self hiσ]at e2
    cases e2
    exact⟨u,r,.inl ⟨hk,by simp⟩⟩
   ·rw[List.getElem?_set_ne (Ne.symm hj)]at e2
    obtain⟨u',r',q⟩:=hl j y v' e1 e2 e3
    refine⟨u',r',?_⟩
    rcases q with⟨k,e⟩|⟨k,c,e,z⟩
    ·refine .inl ⟨k,?_⟩
     have:y≠x:=fun e=>hj (nodup_ix hN e1 (e▸hi))
     simp[this,e]
    ·exact .inr ⟨k,c,e,z.sameBut hs (cne y c e)⟩
  ·obtain⟨w',z⟩:=I.cell y c e
   exact⟨w',z.sameBut hs (cne y c e)⟩
  ·obtain⟨e,n,ne,nf,d⟩:=I.pin p hp
   exact⟨(hs.2 p.1 ne).trans e,n,ne,nf,d⟩
 ·have hfn:X.fn x=true:=by
   rcases hf with z|z
   ·exact z
   ·rw[z]at hk; cases hk
  obtain⟨c,hc⟩:=I.ok.has x (.inl hk)
  obtain⟨w',z⟩:=I.cell x c hc
  refine wpAny_storeName_cell I.ok.kind hk hc z (fun h' hc' hs=>?_)
  obtain⟨oc,hoc,hocd⟩:=id z
  refine h { s with heap:=h' } ⟨I.ok,I.os,I.bare,⟨fun b o e n hb hx=>?_,fun b o e n hb hx=>?_,I.base.free,fun b o e hx=>?_,I.base.tups,I.base.frzs,I.base.tbls⟩,⟨m,hn.sameBut hs (Ne.symm (cne x c hc)),fun j y v' e1 e2 e3=>?_⟩,fun y c' e=>?_,I.free,I.freeC,fun p hp=>?_,tracked ⟨oc,hoc,I.freeC x c hc⟩ hs,by simpa using I.len⟩ ⟨c,hs,.inr hc⟩
  ·exact(hs.2 b (Nat.ne_of_lt (Nat.lt_of_lt_of_le (Heap.lt_size e) (I.ok.cab x c hfn hc)))).trans (I.base.keep b o e n hb hx)
  ·obtain⟨sl,e1⟩:=I.base.slot b o e n hb hx
   exact⟨sl,(hs.2 b (Nat.ne_of_lt (Nat.lt_of_lt_of_le (Heap.lt_size e) (I.ok.cab x c hfn hc)))).trans e1⟩
  ·obtain⟨o',e1⟩:=I.base.there b o e hx
   exact⟨o',(hs.2 b (Nat.ne_of_lt (Nat.lt_of_lt_of_le (Heap.lt_size e) (I.ok.cab x c hfn hc)))).trans e1⟩
  ·by_cases hj:j=i
   ·subst hj
    rw[hi]at e1; cases e1
    rw[List.getElem?_set_self hiσ]at e2
    cases e2
    exact⟨u,r,.inr ⟨.inl hk,c,hc,hc'⟩⟩
   ·rw[List.getElem?_set_ne (Ne.symm hj)]at e2
    obtain⟨u',r',q⟩:=hl j y v' e1 e2 e3
    refine⟨u',r',?_⟩
    rcases q with q|⟨k,c',e,z'⟩
    ·exact .inl q
    ·refine .inr ⟨k,c',e,z'.sameBut hs ?_⟩
     rintro rfl
     exact hj (nodup_ix hN e1 (I.ok.inj _ _ _ e hc▸hi))
  ·by_cases hcc:c'=c
   ·subst hcc; exact⟨_,hc'⟩
   ·obtain⟨w2,z2⟩:=I.cell y c' e
    exact⟨w2,z2.sameBut hs hcc⟩
  ·obtain⟨e,n,ne,nf,d⟩:=I.pin p hp
   refine⟨(hs.2 p.1 ?_).trans e,n,ne,nf,d⟩
   intro q
   rw[q,hoc]at e
   have q':oc=p.2:=Option.some.inj e
   exact d w' (by rw[← q']; exact hocd)
theorem store_ok{M:Model}{A:Around}{E:Value→Shared→Prop}{i:Nat}{x:Str}{v:V}{u:Value}{Q:Unit→Shared→Prop}(I:Inv X pins σ H s)(hN:X.N.Nodup)(hi:X.N[i]?=some x)(hx:Loc X.env.scope x)(r:RelV v u)
  (h:∀ s',Inv X pins (σ.set i (some v)) H s'→Q () s') (hf:X.fn x=true∨X.env.scope.names.lookup x=some .local):wpAny M A (storeName X.env x u) Q E s:=
 store_ok2 I hN hi hx r (fun s' I' _=>h s' I') hf
theorem Inv.call'{s':Shared}{ch:List Addr}(I:Inv X pins σ H s)(ho:s'.os=s.os)(u:Un (frs X.stack) ch H H' s.heap s'.heap)(hok:HOk X.prog X.w H' s'.heap)(hg:AllBare s'.gens)
  (hch:∀ b∈ch,(b∈X.ex∨X.s₀.heap.objs.size≤b)∧b≠X.env.locals∧(∀ x c,X.env.cells.lookup x=some c→c≠b)∧∀ p∈X.pn++pins,p.1≠b):Inv X pins σ H' s':=by
 obtain⟨h',g',d',t',o'⟩:=s'
 have e:o'=s.os:=ho
 subst e
 exact I.call (g':=g') (t':=t') (d':=d') u hok hg hch
end
abbrev XK:=Value→Option Addr→Hp→Prop
abbrev St:=List (Option V)
abbrev VK:=V→Hp→Prop
abbrev TE:=St→Hp→VK→Prop
abbrev TT:=St→Hp→(Bool→Hp→Prop)→Prop
abbrev TA:=St→Hp→(List V→Hp→Prop)→Prop
structure Ends where
 nx:St→Hp→Prop
 rt:VK
 bk:St→Hp→Prop:=fun _ _=>False
 ct:St→Hp→Prop:=fun _ _=>False
abbrev TS:=Ends→St→Hp→Prop
def EP(X:Cx)(pins:List (Addr×Obj))(σ:St)(Q:VK)(u:Value)(s':Shared):Prop:=∃ v H',Inv X pins σ H' s'∧RelV v u∧Q v H'
def TP(X:Cx)(pins:List (Addr×Obj))(σ:St)(Q:Bool→Hp→Prop)(b:Bool)(s':Shared):Prop:=∃ H',Inv X pins σ H' s'∧Q b H'
def AP(X:Cx)(pins:List (Addr×Obj))(σ:St)(Q:List V→Hp→Prop)(us:List Value)(s':Shared):Prop:=∃ vs H',Inv X pins σ H' s'∧Vals vs us∧Q vs H'
def SP(X:Cx)(pins:List (Addr×Obj))(D:Ends)(f:Flow)(s':Shared):Prop:=
 match f with
 |.next=>∃ σ' H',Inv X pins σ' H' s'∧D.nx σ' H'
 |.brk=>∃ σ' H',Inv X pins σ' H' s'∧D.bk σ' H'
 |.cont=>∃ σ' H',Inv X pins σ' H' s'∧D.ct σ' H'
 |.ret u=>∃ v σ' H',Inv X pins σ' H' s'∧RelV v u∧D.rt v H'
def PE(X:Cx)(e:Expr)(t:TE):Prop:=
 ∀ (pins:List (Addr×Obj)) (s:Shared) (σ:St) (H:Hp) (Q:VK),Inv X pins σ H s→t σ H Q→wpAny (model X.prog X.w) X.A (eval e X.env) (EP X pins σ Q) X.xe s
def PT(X:Cx)(e:Expr)(t:TT):Prop:=
 ∀ (pins:List (Addr×Obj)) (s:Shared) (σ:St) (H:Hp) (Q:Bool→Hp→Prop),Inv X pins σ H s→t σ H Q→wpAny (model X.prog X.w) X.A (isTrue e X.env (eval e X.env)) (TP X pins σ Q) X.xe s
def PW(X:Cx)(e:Expr)(t:TT):Prop:=
 ∀ (whole:Sem Value) (pins:List (Addr×Obj)) (s:Shared) (σ:St) (H:Hp) (Q:Bool→Hp→Prop),Inv X pins σ H s→t σ H Q→wpAny (model X.prog X.w) X.A (isTrue e X.env whole) (TP X pins σ Q) X.xe s
theorem PW.pt{X:Cx}{e:Expr}{t:TT}(h:PW X e t):PT X e t:=h _
def PA(X:Cx)(es:List Expr)(t:TA):Prop:=
 ∀ (pos:Pos) (pins:List (Addr×Obj)) (s:Shared) (σ:St) (H:Hp) (Q:List V→Hp→Prop),Inv X pins σ H s→t σ H Q→wpAny (model X.prog X.w) X.A (spliced (backTo pos (starEach es X.env))) (AP X pins σ Q) X.xe s
def PS(X:Cx)(st:Stmt)(t:TS):Prop:=
 ∀ (pins:List (Addr×Obj)) (s:Shared) (σ:St) (H:Hp) (D:Ends),Inv X pins σ H s→t D σ H→wpAny (model X.prog X.w) X.A (exec st X.env) (SP X pins D) X.xe s
def PSs(X:Cx)(st:List Stmt)(t:TS):Prop:=
 ∀ (pins:List (Addr×Obj)) (s:Shared) (σ:St) (H:Hp) (D:Ends),Inv X pins σ H s→t D σ H→wpAny (model X.prog X.w) X.A (execs st X.env) (SP X pins D) X.xe s
theorem thn{α:Type}{t:Sem α}{Q Q':α→Shared→Prop}{M:Model}{A:Around}{E:Value→Shared→Prop}{s:Shared}(h:wpAny M A t Q E s)(hQ:∀ a s,Q a s→Q' a s):wpAny M A t Q' E s:=wpAny_mono h hQ fun _ _ x=>x
end L2
namespace L2
open PySem PySem.Spec PyProof.Rows
section
variable {X:Cx}
theorem bin{a b:Expr}{ta tb:TE}(ha:PE X a ta)(hb:PE X b tb){pins:List (Addr×Obj)}{s:Shared}{σ:St}{H:Hp}{R:V→V→Hp→Prop}(I:Inv X pins σ H s)(h:ta σ H fun x H1=>tb σ H1 fun y H2=>R x y H2)
  {α:Type}{Q:α→Shared→Prop}{f:Value→Value→Sem α}
  (hf:∀ v u s2 x y H2,Inv X pins σ H2 s2→RelV x v→RelV y u→R x y H2→wpAny (model X.prog X.w) X.A (f v u) Q X.xe s2) :
  wpAny (model X.prog X.w) X.A (eval a X.env) (fun v s₁=>wpAny (model X.prog X.w) X.A (eval b X.env) (fun u s₂=>wpAny (model X.prog X.w) X.A (f v u) Q X.xe s₂) X.xe s₁) X.xe s:=by
 refine thn (ha pins s σ H _ I h) fun v s1 ⟨x,H1,I1,r1,q1⟩=>?_
 refine thn (hb pins s1 σ H1 _ I1 q1) fun u s2 ⟨y,H2,I2,r2,q2⟩=>?_
 exact hf v u s2 x y H2 I2 r1 r2 q2
noncomputable def tVar(i:Nat):TE:=fun σ H Q=>∃ v,σ[i]?=some (some v)∧Q v H
noncomputable def tC(v:V):TE:=fun _ H Q=>Q v H
theorem pe_var{i:Nat}{x:Str}{pos:Pos}(hN:X.N[i]?=some x)(hv:Vis X.env.scope x)(hd:(x==("__debug__" : Str))=false:=by decide)(hcd:(x==("__classdict__" : Str))=false:=by decide):PE X (.Name x pos) (tVar i):=by
 intro pins s σ H Q I h
 obtain⟨v,e,h⟩:=h
 obtain⟨m,hn,hl⟩:=I.loc
 obtain⟨u,r,l⟩:=hl i x v hN e hv
 have fin:EP X pins σ Q u s:=⟨v,H,I,r,h⟩
 rcases l with⟨hk,hm⟩|⟨hk,c,hc,hcell⟩
 ·exact wpAny_Name (wpAny_loadName_local I.ok.kind hk hn hm fin) hd
 ·rcases hk with hk|hk
  ·exact wpAny_Name (wpAny_loadName_cell I.ok.kind hk hc hcell fin) hd
  ·exact wpAny_Name (wpAny_loadName_free I.ok.kind hk hc hcell fin hcd) hd
theorem pe_int{i j pos}:PE X (.Constant (.int i) j pos) (tC (.int i)):=fun _ _ _ H _ I h=>wpAny_Constant_int ⟨.int i,H,I.tok _,⟨_,rfl⟩,h⟩
theorem pe_bl{b j pos}:PE X (.Constant (.bool b) j pos) (tC (.bl b)):=fun _ _ _ H _ I h=>Constant_bool ⟨.bl b,H,I,rfl,h⟩
theorem pe_non{j pos}:PE X (.Constant .none j pos) (tC .non):=fun _ _ _ H _ I h=>Constant_none ⟨.non,H,I,rfl,h⟩
def Gl(X:Cx)(x:Str):Prop:=X.env.kindOf x=some .globalImplicit
theorem ld_glob{E:Value→Shared→Prop}{pins:List (Addr×Obj)}{s:Shared}{σ:St}{H:Hp}{x:Str}{u:Value}{pos:Pos}{Q:Value→Shared→Prop}(I:Inv X pins σ H s)(hg:Gl X x)(hm:X.mg x=some u)(h:Q u s)
  (hd:(x==("__debug__" : Str))=false:=by decide):wpAny (model X.prog X.w) X.A (eval (.Name x pos) X.env) Q E s:=
 Calls.Name_function_global I.ok.kind hg (Calls.loadGlobal_global (by rw[I.ok.glob]; exact I.mod.glob.keeps I.bk) hm h) hd
theorem ld_blt{E:Value→Shared→Prop}{pins:List (Addr×Obj)}{s:Shared}{σ:St}{H:Hp}{x:Str}{u:Value}{pos:Pos}{Q:Value→Shared→Prop}(I:Inv X pins σ H s)(hg:Gl X x)(hm:X.mg x=none)(hv:bootBuiltins x=some u)(h:Q u s)
  (hn:x ≠ "__name__":=by decide) (hd:(x==("__debug__" : Str))=false:=by decide):wpAny (model X.prog X.w) X.A (eval (.Name x pos) X.env) Q E s:=by
 obtain⟨mb,h1,h2⟩:=I.mod.blt
 exact Calls.Name_function_global I.ok.kind hg (Calls.loadGlobal_builtin (by rw[I.ok.glob]; exact I.mod.glob.keeps I.bk) hm (by rw[I.ok.blt]; exact h1.keeps I.bk) ((h2 x hn).trans hv) h) hd
theorem pe_glob{x:Str}{v:V}{u:Value}{pos:Pos}(hg:Gl X x)(hm:X.mg x=some u)(r:RelV v u)(hd:(x==("__debug__" : Str))=false:=by decide):PE X (.Name x pos) (tC v):=
 fun _ _ _ H _ I h=>ld_glob I hg hm ⟨v,H,I,r,h⟩ hd
theorem pe_bltn{x:Str}{v:V}{u:Value}{pos:Pos}(hg:Gl X x)(hm:X.mg x=none)(hv:bootBuiltins x=some u)(r:RelV v u)(hn:x ≠ "__name__":=by decide)(hd:(x==("__debug__" : Str))=false:=by decide):PE X (.Name x pos) (tC v):=
 fun _ _ _ H _ I h=>ld_blt I hg hm hv ⟨v,H,I,r,h⟩ hn hd
def t2I(ta tb:TE)(k:Int→Int→Hp→Prop):St→Hp→Prop:=fun σ H=>ta σ H fun x H1=>tb σ H1 fun y H2=>∃ i j,x=.int i∧y=.int j∧k i j H2
variable {a b:Expr}{ta tb:TE}{pos:Pos}
noncomputable def tCmp(p:Int→Int→Bool)(ta tb:TE):TE:=fun σ H Q=>t2I ta tb (fun i j H2=>Q (.bl (p i j)) H2) σ H
variable {tA tB':TT}{rest:List Expr}
noncomputable def tAnd(t u:TT):TT:=fun σ H Q=>t σ H fun c H1=>if c=true then u σ H1 Q else Q false H1
noncomputable def tOr(t u:TT):TT:=fun σ H Q=>t σ H fun c H1=>if c=true then Q true H1 else u σ H1 Q
noncomputable def tNot(t:TT):TT:=fun σ H Q=>t σ H fun c H1=>Q (!c) H1
theorem pw_and1(ha:PT X a tA):PW X (.BoolOp .And [a] pos) tA:=by
 intro wh pins s σ H Q I h
 refine isTrue_and (thn (ha pins s σ H Q I h) fun c s1 e=>?_)
 cases c with
 |true=>exact isTrue_and_nil e
 |false=>exact e
theorem pw_or1(ha:PT X a tA):PW X (.BoolOp .Or [a] pos) tA:=by
 intro wh pins s σ H Q I h
 refine isTrue_or (thn (ha pins s σ H Q I h) fun c s1 e=>?_)
 cases c with
 |false=>exact isTrue_or_nil e
 |true=>exact e
theorem pw_and(ha:PT X a tA)(hb:PW X (.BoolOp .And (b::rest) pos) tB'):PW X (.BoolOp .And (a::b::rest) pos) (tAnd tA tB'):=by
 intro wh pins s σ H Q I h
 refine isTrue_and (thn (ha pins s σ H _ I h) fun c s1 ⟨H1,I1,q1⟩=>?_)
 cases c with
 |true=>exact hb wh pins s1 σ H1 Q I1 q1
 |false=>exact⟨H1,I1,q1⟩
theorem pw_or(ha:PT X a tA)(hb:PW X (.BoolOp .Or (b::rest) pos) tB'):PW X (.BoolOp .Or (a::b::rest) pos) (tOr tA tB'):=by
 intro wh pins s σ H Q I h
 refine isTrue_or (thn (ha pins s σ H _ I h) fun c s1 ⟨H1,I1,q1⟩=>?_)
 cases c with
 |true=>exact⟨H1,I1,q1⟩
 |false=>exact hb wh pins s1 σ H1 Q I1 q1
theorem pt_not(ha:PT X a tA):PT X (.UnaryOp .Not a pos) (tNot tA):=by
 intro pins s σ H Q I h
 exact isTrue_not (ha pins s σ H (fun c H1=>Q (!c) H1) I h)
noncomputable def tAndV(ta tb:TE):TE:=fun σ H Q=>ta σ H fun x H1=>∃ c,x=.bl c∧if c=true then tb σ H1 Q else Q (.bl false) H1
noncomputable def tOrV(ta tb:TE):TE:=fun σ H Q=>ta σ H fun x H1=>∃ c,x=.bl c∧if c=true then Q (.bl true) H1 else tb σ H1 Q
noncomputable def tNotV(ta:TE):TE:=fun σ H Q=>ta σ H fun x H1=>∃ c,x=.bl c∧Q (.bl (!c)) H1
theorem pe_one{op}{t:TE}(h:PE X a t):PE X (.BoolOp op [a] pos) t:=fun pins s σ H Q I hw=>BoolOp_one (h pins s σ H Q I hw)
theorem pe_and(ha:PE X a ta)(hb:PE X (.BoolOp .And (b::rest) pos) tb):PE X (.BoolOp .And (a::b::rest) pos) (tAndV ta tb):=by
 intro pins s σ H Q I h
 refine BoolOp_and (thn (ha pins s σ H _ I h) fun v s1 ⟨x,H1,I1,r1,q1⟩=>?_)
 obtain⟨c,rfl,q1⟩:=q1
 cases r1
 refine wpAny_truthy_bool ?_
 cases c with
 |true=>exact hb pins s1 σ H1 Q I1 q1
 |false=>exact⟨.bl false,H1,I1,rfl,q1⟩
theorem pe_or(ha:PE X a ta)(hb:PE X (.BoolOp .Or (b::rest) pos) tb):PE X (.BoolOp .Or (a::b::rest) pos) (tOrV ta tb):=by
 intro pins s σ H Q I h
 refine BoolOp_or (thn (ha pins s σ H _ I h) fun v s1 ⟨x,H1,I1,r1,q1⟩=>?_)
 obtain⟨c,rfl,q1⟩:=q1
 cases r1
 refine wpAny_truthy_bool ?_
 cases c with
 |false=>exact hb pins s1 σ H1 Q I1 q1
 |true=>exact⟨.bl true,H1,I1,rfl,q1⟩
theorem pe_not(ha:PE X a ta):PE X (.UnaryOp .Not a pos) (tNotV ta):=by
 intro pins s σ H Q I h
 refine UnaryOp_ (thn (ha pins s σ H _ I h) fun v s1 ⟨x,H1,I1,r1,q1⟩=>?_)
 obtain⟨c,rfl,q1⟩:=q1
 cases r1
 exact not_of (wpAny_truthy_bool ⟨.bl (!c),H1,I1,rfl,q1⟩)
noncomputable def tIf(t:TT)(ta tb:TE):TE:=fun σ H Q=>t σ H fun c H1=>if c=true then ta σ H1 Q else tb σ H1 Q
theorem pe_ifExp{c:Expr}(hc:PT X c tA)(ha:PE X a ta)(hb:PE X b tb):PE X (.IfExp c a b pos) (tIf tA ta tb):=by
 intro pins s σ H Q I h
 refine wpAny_IfExp (thn (hc pins s σ H _ I h) fun d s1 ⟨H1,I1,q1⟩=>?_)
 cases d with
 |true=>exact ha pins s1 σ H1 Q I1 q1
 |false=>exact hb pins s1 σ H1 Q I1 q1
end
end L2
namespace L2
open PySem PySem.Spec PyProof.Rows
def SqL(K:PySem.W.Frag)(H:Hp)(a:Addr)(xs:List V):Prop:=
 Rd H a (.lst xs)∨
  ∃ (o:Obj) (its:Array Value) (n:Nat),K.lookup a=some o∧o.cls=.type "list"∧o.dict=none∧o.data=.seq its n∧its.size≤sizeLine∧Vals xs its.toList
def SqT(K:PySem.W.Frag)(H:Hp)(a:Addr)(xs:List V):Prop:=
 Rd H a (.tup xs)∨
  ∃ (o:Obj) (its:Array Value) (n:Nat),K.lookup a=some o∧o.cls=.type "tuple"∧o.data=.seq its n∧its.size≤sizeLine∧Vals xs its.toList
noncomputable def absV:Value→Option V
 |.none=>some .non
 |.bool b=>some (.bl b)
 |.int i _=>some (.int i)
 |.str x _=>some (.str x)
 |.bytes b _=>some (.byt b)
 |.float b _=>some (.flt b)
 |.ref a=>some (.ref a)
 |.type n=>some (.ty n)
 |_=>none
theorem RelV.abs{x:V}{u:Value}(r:RelV x u):absV u=some x:=by
 cases x with
 |non=>cases r; rfl
 |bl _=>cases r; rfl
 |int _=>obtain⟨t,rfl⟩:=r; rfl
 |str _=>obtain⟨t,rfl⟩:=r; rfl
 |byt _=>obtain⟨t,rfl⟩:=r; rfl
 |flt _=>obtain⟨t,rfl⟩:=r; rfl
 |ref _=>cases r; rfl
 |ty _=>cases r; rfl
theorem RelV.inj{x y:V}{u:Value}(r:RelV x u)(q:RelV y u):x=y:=Option.some.inj (r.abs.symm.trans q.abs)
theorem Vals.inj:∀ {xs ys:List V}{us:List Value},Vals xs us→Vals ys us→xs=ys
 |_,_,_,.nil,.nil=>rfl
 |_,_,_,.cons r t,.cons r' t'=>by rw[r.inj r',Vals.inj t t']
section
variable {X:Cx}{pins:List (Addr×Obj)}{σ:St}{H:Hp}{s:Shared}{a:Addr}{xs ys:List V}
theorem SqL.of{K:PySem.W.Frag}(h:H a=some (.lst xs)):SqL K H a xs:=.inl (.inl h)
theorem SqT.of{K:PySem.W.Frag}(h:H a=some (.tup xs)):SqT K H a xs:=.inl (.inl h)
theorem Inv.list(I:Inv X pins σ H s)(h:SqL X.K H a xs):∃ its:List Value,Vals xs its∧PlainL s.heap a its.toArray∧xs.length≤sizeLine:=by
 rcases h with h|⟨o,its,n,hk,hc,hd,hs,hz,r⟩
 ·obtain⟨z,its,n,r,e⟩:=h.ok I.hok
  exact⟨its,r,⟨_,n,e,rfl,rfl,rfl⟩,z⟩
 ·refine⟨its.toList,r,⟨o,n,I.kIn a o hk,hc,hd,by simpa using hs⟩,?_⟩
  have e:=r.length
  simp only[Array.length_toList]at e
  omega
theorem Inv.tuple(I:Inv X pins σ H s)(h:SqT X.K H a xs):∃ its:List Value,Vals xs its∧IsTup s.heap a its.toArray∧xs.length≤sizeLine:=by
 rcases h with h|⟨o,its,n,hk,hc,hs,hz,r⟩
 ·obtain⟨z,its,r,p⟩:=h.ok I.hok
  exact⟨its,r,p,z⟩
 ·refine⟨its.toList,r,⟨o,I.kIn a o hk,hc,n,by simpa using hs⟩,?_⟩
  have e:=r.length
  simp only[Array.length_toList]at e
  omega
theorem Inv.list_inj(I:Inv X pins σ H s)(h:SqL X.K H a xs)(h':SqL X.K H a ys):xs=ys:=by
 obtain⟨its,r,⟨o,n,e,_,_,d⟩,_⟩:=I.list h
 obtain⟨its',r',⟨o',n',e',_,_,d'⟩,_⟩:=I.list h'
 rw[e]at e'; cases e'
 rw[d]at d'
 injection d' with d1 _
 have:its=its':=by simpa using congrArg Array.toList d1
 subst this
 exact r.inj r'
theorem Inv.tuple_inj(I:Inv X pins σ H s)(h:SqT X.K H a xs)(h':SqT X.K H a ys):xs=ys:=by
 obtain⟨its,r,⟨o,e,_,n,d⟩,_⟩:=I.tuple h
 obtain⟨its',r',⟨o',e',_,n',d'⟩,_⟩:=I.tuple h'
 rw[e]at e'; cases e'
 rw[d]at d'
 injection d' with d1 _
 have:its=its':=by simpa using congrArg Array.toList d1
 subst this
 exact r.inj r'
end
noncomputable abbrev Cx.wish(X:Cx)(E:Value→Shared→Prop):Cx:={ X with xe:=E }
noncomputable abbrev Cx.nox(X:Cx):Cx:=X.wish fun _ _=>False
theorem Cx.Ok.wish{X:Cx}(ok:X.Ok)(E:Value→Shared→Prop):(X.wish E).Ok:=
 ⟨ok.mod,ok.kind,ok.glob,ok.blt,ok.above,ok.inj,ok.has,ok.cab,ok.hd,ok.frames,ok.stk,ok.exf,ok.bs,ok.bsz,ok.noex,ok.exfs,ok.funs,ok.frf⟩
theorem Cx.Ok.unwish{X:Cx}{E:Value→Shared→Prop}(ok:(X.wish E).Ok):X.Ok:=
 ⟨ok.mod,ok.kind,ok.glob,ok.blt,ok.above,ok.inj,ok.has,ok.cab,ok.hd,ok.frames,ok.stk,ok.exf,ok.bs,ok.bsz,ok.noex,ok.exfs,ok.funs,ok.frf⟩
section
variable {X:Cx}{pins:List (Addr×Obj)}{σ:St}{H:Hp}{s:Shared}{E:Value→Shared→Prop}
theorem Inv.wish(I:Inv X pins σ H s)(E:Value→Shared→Prop):Inv (X.wish E) pins σ H s:=⟨I.ok.wish E,I.os,I.bare,I.base,I.loc,I.cell,I.free,I.freeC,I.pin,I.hok,I.len⟩
theorem Inv.unwish(I:Inv (X.wish E) pins σ H s):Inv X pins σ H s:=⟨I.ok.unwish,I.os,I.bare,I.base,I.loc,I.cell,I.free,I.freeC,I.pin,I.hok,I.len⟩
theorem SP.unwish{D:Ends}{f:Flow}{s':Shared}(h:SP (X.wish E) pins D f s'):SP X pins D f s':=by
 cases f with
 |next=>obtain⟨σ',H',I,q⟩:=h; exact⟨σ',H',I.unwish,q⟩
 |brk=>obtain⟨σ',H',I,q⟩:=h; exact⟨σ',H',I.unwish,q⟩
 |cont=>obtain⟨σ',H',I,q⟩:=h; exact⟨σ',H',I.unwish,q⟩
 |ret u=>obtain⟨v,σ',H',I,r,q⟩:=h; exact⟨v,σ',H',I.unwish,r,q⟩
theorem PE.nox{e:Expr}{t:TE}(h:PE X.nox e t):PE X e t:=fun pins s σ H Q I hw=>
 wpAny_mono (h pins s σ H Q (I.wish _) hw) (fun _ _ ⟨v,H',I',r,q⟩=>⟨v,H',I'.unwish,r,q⟩) fun _ _ z=>False.elim z
theorem PT.nox{e:Expr}{t:TT}(h:PT X.nox e t):PT X e t:=fun pins s σ H Q I hw=>
 wpAny_mono (h pins s σ H Q (I.wish _) hw) (fun _ _ ⟨H',I',q⟩=>⟨H',I'.unwish,q⟩) fun _ _ z=>False.elim z
theorem PSs.nox{st:List Stmt}{t:TS}(h:PSs X.nox st t):PSs X st t:=fun pins s σ H D I hw=>
 wpAny_mono (h pins s σ H D (I.wish _) hw) (fun _ _ q=>q.unwish) fun _ _ z=>False.elim z
end
section
variable {X:Cx}{st:Stmt}{rest:List Stmt}{t u:TS}{e:Expr}{te:TE}{pos:Pos}
noncomputable def tNext:TS:=fun D σ H=>D.nx σ H
noncomputable def tSeq(t u:TS):TS:=fun D σ H=>t { D with nx:=u D } σ H
theorem pss_nil:PSs X [] tNext:=fun _ _ σ H _ I h=>wpAny_execs_nil ⟨σ,H,I,h⟩
theorem pss_cons(h1:PS X st t)(h2:PSs X rest u):PSs X (st::rest) (tSeq t u):=by
 intro pins s σ H D I h
 refine wpAny_execs_cons (thn (h1 pins s σ H { D with nx:=u D } I h) fun f s1 q=>?_)
 cases f with
 |next=>
  obtain⟨σ',H',I',q⟩:=q
  exact h2 pins s1 σ' H' D I' q
 |ret v=>exact q
 |brk=>exact q
 |cont=>exact q
theorem Inv.quiet{pins:List (Addr×Obj)}{σ:St}{H:Hp}{s:Shared}(I:Inv X pins σ H s):interactive X.env=false:=by simp[interactive,I.ok.kind]
theorem ps_doc{x j pos pos'}:PS X (.Expr (.Constant (.str x) j pos) pos') tNext:=fun _ s σ H _ I h=>wpAny_Expr (Calls.Constant_str (show SP X _ _ .next { s with toks:=s.toks+1 } from⟨σ,H,I.tok _,h⟩)) I.quiet
noncomputable def tDrop(te:TE):TS:=fun D σ H=>te σ H fun _ H1=>D.nx σ H1
theorem ps_expr(he:PE X e te)(hs:swapsWith e none pos.line X.env=pure false):PS X (.Expr e pos) (tDrop te):=by
 intro pins s σ H D I h
 exact wpAny_Expr_any (thn (he pins s σ H _ I h) fun v s1 ⟨x,H1,I1,r1,q1⟩=>⟨σ,H1,I1,q1⟩) I.quiet hs
noncomputable def tRet(te:TE):TS:=fun D σ H=>te σ H D.rt
theorem ps_ret(he:PE X e te):PS X (.Return (some e) pos) (tRet te):=by
 intro pins s σ H D I h
 exact wpAny_Return_some (thn (he pins s σ H _ I h) fun v s1 ⟨x,H1,I1,r1,q1⟩=>⟨x,σ,H1,I1,r1,q1⟩)
noncomputable def tIfS(c:TT)(t u:TS):TS:=fun D σ H=>c σ H fun b H1=>if b=true then t D σ H1 else u D σ H1
theorem ps_if{c:Expr}{a b:List Stmt}{tc:TT}(hc:PT X c tc)(ha:PSs X a t)(hb:PSs X b u):PS X (.If c a b pos) (tIfS tc t u):=by
 intro pins s σ H D I h
 refine wpAny_If (thn (hc pins s σ H _ I h) fun d s1 ⟨H1,I1,q1⟩=>?_)
 cases d with
 |true=>exact ha pins s1 σ H1 D I1 q1
 |false=>exact hb pins s1 σ H1 D I1 q1
end
abbrev TG:=V→St→Hp→(St→Hp→Prop)→Prop
abbrev TGs:=List V→St→Hp→(St→Hp→Prop)→Prop
def PG(X:Cx)(target:Expr)(t:TG):Prop:=
 ∀ (pins:List (Addr×Obj)) (s:Shared) (σ:St) (H:Hp) (v:V) (u:Value) (Q:St→Hp→Prop),Inv X pins σ H s→RelV v u→t v σ H Q→
  wpAny (model X.prog X.w) X.A (assign target X.env u) (fun _ s'=>∃ σ' H',Inv X pins σ' H' s'∧Q σ' H') X.xe s
def PGs(X:Cx)(ts:List Expr)(t:TGs):Prop:=
 ∀ (pins:List (Addr×Obj)) (s:Shared) (σ:St) (H:Hp) (vs:List V) (us:List Value) (Q:St→Hp→Prop),Inv X pins σ H s→Vals vs us→t vs σ H Q→
  wpAny (model X.prog X.w) X.A (assignInOrder ((assignEach ts X.env).map (·.2)) us) (fun _ s'=>∃ σ' H',Inv X pins σ' H' s'∧Q σ' H') X.xe s
abbrev TSet:=V→V→V→Hp→(Hp→Prop)→Prop
def PSet(X:Cx)(t:TSet):Prop:=
 ∀ (pins:List (Addr×Obj)) (s:Shared) (σ:St) (H:Hp) (o i v:V) (ov iv u:Value) (Q:Hp→Prop),Inv X pins σ H s→RelV o ov→RelV i iv→RelV v u→t o i v H Q→
  wpAny (model X.prog X.w) X.A (setItem ov iv u) (fun _ s'=>∃ H',Inv X pins σ H' s'∧Q H') X.xe s
section
variable {X:Cx}{pos:Pos}
noncomputable def gName(i:Nat):TG:=fun v σ H Q=>Q (σ.set i (some v)) H
theorem pg_name{i:Nat}{x:Str}(hN:X.N.Nodup)(hi:X.N[i]?=some x)(hx:Loc X.env.scope x)(hf:X.fn x=true∨X.env.scope.names.lookup x=some .local):PG X (.Name x pos) (gName i):=by
 intro pins s σ H v u Q I r h
 exact wpAny_assign_Name (store_ok I hN hi hx r (fun s' I'=>⟨_,H,I',h⟩) hf)
noncomputable def gNil:TGs:=fun vs σ H Q=>vs=[]∧Q σ H
noncomputable def gCons(t:TG)(u:TGs):TGs:=fun vs σ H Q=>∃ v r,vs=v::r∧t v σ H fun σ' H'=>u r σ' H' Q
theorem pgs_nil:PGs X [] gNil:=by
 intro pins s σ H vs us Q I r h
 obtain⟨e,h⟩:=h
 subst e
 cases r
 exact assignInOrder_nil ⟨σ,H,I,h⟩
theorem pgs_cons{e:Expr}{es:List Expr}{t:TG}{u:TGs}(h1:PG X e t)(h2:PGs X es u)
  (hs:(assignEach (e::es) X.env).map (·.2)=assign e X.env::(assignEach es X.env).map (·.2):=by rfl):PGs X (e::es) (gCons t u):=by
 intro pins s σ H vs us Q I r h
 obtain⟨v,vr,e1,h⟩:=h
 subst e1
 cases r with
 |cons r rr=>
  rw[hs]
  refine assignInOrder_cons (thn (h1 pins s σ H _ _ _ I r h) fun _ s1 ⟨σ1,H1,I1,q1⟩=>?_)
  exact h2 pins s1 σ1 H1 _ _ Q I1 rr q1
noncomputable def gTup(K:PySem.W.Frag)(n:Nat)(t:TGs):TG:=fun v σ H Q=>∃ a xs,v=.ref a∧SqT K H a xs∧xs.length=n∧t xs σ H Q
theorem pg_tup{es:List Expr}{k:Nat}{t:TGs}{n:Nat}(hc:X.calm=true)(h:PGs X es t)
  (hn:(assignEach es X.env).length=n:=by rfl) (hst:(assignEach es X.env).findIdx? (·.1)=none:=by rfl):PG X (.Tuple es k pos) (gTup X.K n t):=by
 intro pins s σ H v u Q I r hw
 obtain⟨a,xs,e1,hq,hl,hw⟩:=hw
 subst e1
 cases r
 obtain⟨its,rv,ht,hz⟩:=I.tuple hq
 refine assign_Tuple_tuple (I.ok.hd hc) ht (by simp[hn,← hl,rv.length]) hst fun h' hx=>?_
 have I1:Inv X pins σ H { s with heap:=h' }:=I.kept (t':=s.toks) fun b o e=>hx b o (Nat.ne_of_lt (Heap.lt_size e)) e
 exact h pins _ σ H xs _ Q I1 (by simpa using rv) hw
noncomputable def gSub(to ti:TE)(t:TSet):TG:=fun v σ H Q=>to σ H fun o H1=>ti σ H1 fun i H2=>t o i v H2 fun H3=>Q σ H3
theorem pg_sub{o i:Expr}{to ti:TE}{t:TSet}(ho:PE X o to)(hi:PE X i ti)(hs:PSet X t)
  (ha:∀ v,assign (.Subscript o i pos) X.env v=(do
   let ov ← holding [v] (eval o X.env)
   let iv ← holding [v,ov] (eval i X.env)
   standAt pos
   holding [v,ov,iv] (setItem ov iv v)
   release [v,ov,iv] []):=by intro _; rfl):PG X (.Subscript o i pos) (gSub to ti t):=by
 intro pins s σ H v u Q I r h
 rw[ha]
 refine wpAny_bind (wpAny_holding (thn (ho pins s σ H _ I h) fun ov s1 ⟨x,H1,I1,r1,q1⟩=>?_))
 refine wpAny_bind (wpAny_holding (thn (hi pins s1 σ H1 _ I1 q1) fun iv s2 ⟨y,H2,I2,r2,q2⟩=>?_))
 refine wpAny_bind (wpAny_standAt (wpAny_bind (wpAny_holding (thn (hs pins s2 σ H2 x y v ov iv u _ I2 r1 r2 r q2) fun _ s3 ⟨H3,I3,q3⟩=>?_))))
 exact wpAny_release ⟨σ,H3,I3,q3⟩
noncomputable def tAsg(te:TE)(g:TG):TS:=fun D σ H=>te σ H fun x H1=>g x σ H1 D.nx
theorem ps_asg{tg e:Expr}{te:TE}{g:TG}(he:PE X e te)(hg:PG X tg g)(hs:swapsWithSole [tg] e pos.line X.env=pure false:=by rfl)(hw:swappedStores [tg] e X.env=pure none:=by rfl)
  (h1:(assignEach [tg] X.env).map (·.2)=[assign tg X.env]:=by rfl):PS X (.Assign [tg] e pos) (tAsg te g):=by
 intro pins s σ H D I h
 refine wpAny_Assign_stores (thn (he pins s σ H _ I h) fun v s1 ⟨x,H1,I1,r1,q1⟩=>?_) hs hw
 rw[h1]
 exact thn (hg pins s1 σ H1 x v _ I1 r1 q1) fun _ s2 q=>q
theorem ps_set{i:Nat}{x:Str}{e:Expr}{te:TE}{pos':Pos}(hN:X.N.Nodup)(hi:X.N[i]?=some x)(hx:Loc X.env.scope x)(he:PE X e te)(hs:swapsWith e (some (.Name x pos')) pos.line X.env=pure false:=by rfl)(hf:X.fn x=true∨X.env.scope.names.lookup x=some .local):
  PS X (.Assign [.Name x pos'] e pos) (tAsg te (gName i)):=by
 intro pins s σ H D I h
 refine wpAny_Assign_Name (thn (he pins s σ H _ I h) fun v s1 ⟨y,H1,I1,r1,q1⟩=>?_) hs
 exact store_ok I1 hN hi hx r1 (fun s2 I2=>⟨_,H1,I2,q1⟩) hf
end
section
variable {X:Cx}{pos:Pos}
end
structure It where
 go:Nat→Hp→Prop
 yld:Nat→Hp→V→Hp→Prop
 stop:Nat→Hp→Prop
def FpOk(X:Cx)(pins:List (Addr×Obj))(H:Hp)(b:Addr):Prop:=
 H b=none∧b≠X.env.locals∧b ∉ X.fs∧(b∈X.ex∨X.s₀.heap.objs.size≤b)∧(∀ x c,X.env.cells.lookup x=some c→c≠b)∧∀ p∈X.pn++pins,p.1≠b
theorem Inv.fpOk{X:Cx}{pins:List (Addr×Obj)}{σ:St}{H H':Hp}{s:Shared}{b:Addr}(I:Inv X pins σ H s)(hb:s.heap.objs.size≤b)(hn:H' b=none):FpOk X pins H' b:=by
 refine⟨hn,Nat.ne_of_gt (Nat.lt_of_lt_of_le I.lt hb),I.nofs hb,.inr (Nat.le_trans I.sz hb),fun x c e z=>?_,fun p hp z=>?_⟩
 ·obtain⟨v,q⟩:=I.cell x c e
  exact absurd (Nat.lt_of_lt_of_le q.lt (by rw[z]; exact hb)) (Nat.lt_irrefl _)
 ·exact absurd (Nat.lt_of_lt_of_le (Heap.lt_size (I.pin p hp).1) (by rw[z]; exact hb)) (Nat.lt_irrefl _)
structure Turn (P:Program) (w:World) (K:PySem.W.Frag) (tg:Expr) (J:It) (fp:List Addr) (it:Addr) (tn:Nat→Heap→Prop):Prop where
 mem:it∈fp
 obj:∀ i h,tn i h→∀ b∈fp,∃ o,h.get? b=some o∧∀ v,o.data≠.cell v
 keep:∀ i h h',tn i h→(∀ b∈fp,∀ o,h.get? b=some o→h'.get? b=some o)→tn i h'
 item:∀ (X:Cx),X.prog=P→X.w=w→X.K=K→X.calm=true→∀ (i:Nat) (pins:List (Addr×Obj)) (s:Shared) (σ:St) (H:Hp) (E:Value→Shared→Prop),Inv X pins σ H s→(∀ b∈fp,FpOk X pins H b)→tn i s.heap→J.go i H→
  wpAny (model P w) X.A (pyNext (.ref it)) (fun r s1=>∃ u,r=some u∧
   wpAny (model P w) X.A (letOwnedTupleGo tg (.ref it) u) (fun _ s2=>∃ x H',Inv X pins σ H' s2∧RelV x u∧J.yld i H x H'∧tn (i+1) s2.heap∧∀ b∈fp,H' b=none) E s1) E s
 done:∀ (X:Cx),X.prog=P→X.w=w→X.K=K→X.calm=true→∀ (i:Nat) (pins:List (Addr×Obj)) (s:Shared) (σ:St) (H:Hp) (E:Value→Shared→Prop),Inv X pins σ H s→(∀ b∈fp,FpOk X pins H b)→tn i s.heap→J.stop i H→
  wpAny (model P w) X.A (pyNext (.ref it)) (fun r s1=>r=none∧Inv X pins σ H s1) E s
 self:∀ (A:Around) (i:Nat) (s:Shared) (Q:Value→Shared→Prop) (E:Value→Shared→Prop),tn i s.heap→Q (.ref it) s→wpAny (model P w) A (pyIter (.ref it)) Q E s
abbrev TI:=St→Hp→(It→Hp→Prop)→Prop
def PIE(X:Cx)(pins:List (Addr×Obj))(σ:St)(tg:Expr)(R:It→Hp→Prop)(itv:Value)(s2:Shared):Prop:=
 ∃ (it:Addr) (fp:List Addr) (tn:Nat→Heap→Prop) (J:It) (H':Hp),itv=.ref it∧Inv X pins σ H' s2∧Turn X.prog X.w X.K tg J fp it tn∧tn 0 s2.heap∧(∀ b∈fp,FpOk X pins H' b)∧R J H'
def PI(X:Cx)(tg iter:Expr)(wi:TI):Prop:=
 ∀ (pins:List (Addr×Obj)) (s:Shared) (σ:St) (H:Hp) (R:It→Hp→Prop),Inv X pins σ H s→wi σ H R→
  wpAny (model X.prog X.w) X.A (eval iter X.env) (fun v s1=>wpAny (model X.prog X.w) X.A (pyIter v) (PIE X pins σ tg R) X.xe s1) X.xe s
theorem go_of{M:Model}{A:Around}{E:Value→Shared→Prop}{s:Shared}{tg:Expr}{it:Addr}{u:Value}{o:Obj}{n:String}{vs:Array Value}{Q:Unit→Shared→Prop}(ho:s.heap.get? it=some o)(hc:o.cls=.type n)(hd:o.data=.fields vs)
  (hn:["enumerate","zip","dict_itemiterator","dict_reverseitemiterator","odict_iterator","itertools.zip_longest","itertools.pairwise"].contains n=false) (hQ:Q () s):wpAny M A (letOwnedTupleGo tg (.ref it) u) Q E s:=by
 unfold letOwnedTupleGo
 cases tg<;>first
  |exact wpAny_pure hQ
  |(cases u<;>first
    |exact wpAny_pure hQ
    |(refine wpAny_bind (wpAny_load ho ?_)
      rw[hc,hd]
      show wpAny M A (if (["enumerate","zip","dict_itemiterator","dict_reverseitemiterator","odict_iterator","itertools.zip_longest","itertools.pairwise"].contains n&&vs[0]?==some (rawInt _))=true then _ else _) Q E s
      rw[if_neg (by intro h; rw[hn,Bool.false_and]at h; cases h)]
      exact wpAny_pure hQ))
noncomputable def Itl(K:PySem.W.Frag)(a:Addr):It:=
 ⟨fun i H=>∃ xs x,SqL K H a xs∧xs[i]?=some x,fun i H x H'=>H'=H∧∀ xs,SqL K H a xs→xs[i]?=some x,fun i H=>∃ xs,SqL K H a xs∧xs.length≤i⟩
noncomputable def Itt(K:PySem.W.Frag)(a:Addr):It:=
 ⟨fun i H=>∃ xs x,SqT K H a xs∧xs[i]?=some x,fun i H x H'=>H'=H∧∀ xs,SqT K H a xs→xs[i]?=some x,fun i H=>∃ xs,SqT K H a xs∧xs.length≤i⟩
noncomputable def Itr(lo:Int)(n:Nat):It:=⟨fun i _=>i<n,fun i H x H'=>H'=H∧x=.int (lo+i),fun i _=>n≤i⟩
theorem turn_list{P:Program}{w:World}{K:PySem.W.Frag}{tg:Expr}(a it:Addr):Turn P w K tg (Itl K a) [it] it (fun i h=>h.IsListIter it a i) where
 mem:=by simp
 obj:=fun i h st b hb=>by
  have e:b=it:=by simpa using hb
  subst e
  obtain⟨o,e,c,d⟩:=st
  exact⟨o,e,fun v z=>by rw[d]at z; cases z⟩
 keep:=fun i h h' st k=>st.at fun o e=>k it (by simp) o e
 item:=by
  intro X hP hw hK hc i pins s σ H E I hf st hg
  subst hP hw hK
  obtain⟨xs,x,hq,hx⟩:=hg
  obtain⟨its,rv,p,hz⟩:=I.list hq
  obtain⟨u,hu,ru⟩:=rv.get hx
  obtain⟨f0,f1,f2,f3,f4,f5⟩:=hf it (by simp)
  refine wpAny_pyNext_list_item st p.isList (x:=u) (by simpa using hu) fun h' st' sb=>?_
  have I1:Inv X pins σ H { s with heap:=h' }:=I.turned (t':=s.toks) (fun b o hb e=>(sb.2 b hb).trans e) f0 f1 f3 f4 f5
  obtain⟨o,e,c,d⟩:=id st'
  exact⟨u,rfl,go_of (s:={ s with heap:=h' }) e c d (by decide) ⟨x,H,I1,ru,⟨rfl,fun ys hy=>by rw[I.list_inj hy hq]; exact hx⟩,st',fun b hb=>(hf b hb).1⟩⟩
 done:=by
  intro X hP hw hK hc i pins s σ H E I hf st hg
  subst hP hw hK
  obtain⟨xs,hq,hx⟩:=hg
  obtain⟨its,rv,p,hz⟩:=I.list hq
  obtain⟨f0,f1,f2,f3,f4,f5⟩:=hf it (by simp)
  have hl:=rv.length
  exact wpAny_pyNext_list_end (I.ok.hd hc) st p.isList (by simp; omega) fun h' eb=>⟨rfl,I.turned (t':=s.toks) (fun b o hb e=>eb b o hb e) f0 f1 f3 f4 f5⟩
 self:=fun _ _ _ _ _ st h=>wpAny_pyIter_listiter st h
theorem turn_tuple{P:Program}{w:World}{K:PySem.W.Frag}{tg:Expr}(a it:Addr):Turn P w K tg (Itt K a) [it] it (fun i h=>h.IsTupleIter it a i) where
 mem:=by simp
 obj:=fun i h st b hb=>by
  have e:b=it:=by simpa using hb
  subst e
  obtain⟨o,e,c,d⟩:=st
  exact⟨o,e,fun v z=>by rw[d]at z; cases z⟩
 keep:=fun i h h' st k=>st.at fun o e=>k it (by simp) o e
 item:=by
  intro X hP hw hK hc i pins s σ H E I hf st hg
  subst hP hw hK
  obtain⟨xs,x,hq,hx⟩:=hg
  obtain⟨its,rv,p,hz⟩:=I.tuple hq
  obtain⟨u,hu,ru⟩:=rv.get hx
  obtain⟨f0,f1,f2,f3,f4,f5⟩:=hf it (by simp)
  refine wpAny_pyNext_tuple_item st (show s.heap.IsTuple a its.toArray from p) (x:=u) (by simpa using hu) fun h' st' sb=>?_
  have I1:Inv X pins σ H { s with heap:=h' }:=I.turned (t':=s.toks) (fun b o hb e=>(sb.2 b hb).trans e) f0 f1 f3 f4 f5
  obtain⟨o,e,c,d⟩:=id st'
  exact⟨u,rfl,go_of (s:={ s with heap:=h' }) e c d (by decide) ⟨x,H,I1,ru,⟨rfl,fun ys hy=>by rw[I.tuple_inj hy hq]; exact hx⟩,st',fun b hb=>(hf b hb).1⟩⟩
 done:=by
  intro X hP hw hK hc i pins s σ H E I hf st hg
  subst hP hw hK
  obtain⟨xs,hq,hx⟩:=hg
  obtain⟨its,rv,p,hz⟩:=I.tuple hq
  obtain⟨f0,f1,f2,f3,f4,f5⟩:=hf it (by simp)
  have hl:=rv.length
  exact wpAny_pyNext_tuple_end (I.ok.hd hc) st (show s.heap.IsTuple a its.toArray from p) (by simp; omega) fun h' eb=>⟨rfl,I.turned (t':=s.toks) (fun b o hb e=>eb b o hb e) f0 f1 f3 f4 f5⟩
 self:=fun _ _ _ _ _ st h=>wpAny_pyIter_tupleiter st h
theorem turn_range{P:Program}{w:World}{K:PySem.W.Frag}{tg:Expr}(it:Addr)(lo:Int)(n:Nat):Turn P w K tg (Itr lo n) [it] it (fun i h=>IsRangeIter h it (lo+(i:Nat)*1) ((n:Int) - (i:Nat)) 1) where
 mem:=by simp
 obj:=fun i h st b hb=>by
  have e:b=it:=by simpa using hb
  subst e
  exact⟨_,st,fun v z=>by
   have z':Data.fields _=Data.cell v:=z
   cases z'⟩
 keep:=fun i h h' st k=>k it (by simp) _ st
 item:=by
  intro X hP hw hK hc i pins s σ H E I hf st hg
  subst hP hw hK
  obtain⟨f0,f1,f2,f3,f4,f5⟩:=hf it (by simp)
  have W:=Walks.range (prog:=X.prog) (w:=X.w) (I.ok.hd hc) it lo 1 n
  refine W.item i s _ _ hg st fun v h' tk hv st' kk=>?_
  obtain⟨t,rfl⟩:=hv
  have I1:Inv X pins σ H { s with heap:=h',toks:=tk }:=I.turned (fun b o hb e=>kk b o (by simpa using hb) e) f0 f1 f3 f4 f5
  refine⟨_,rfl,go_of (s:={ s with heap:=h',toks:=tk }) (n:="range_iterator") st' rfl rfl (by decide) ⟨.int (lo+i),H,I1,⟨t,?_⟩,⟨rfl,rfl⟩,st',fun b hb=>(hf b hb).1⟩⟩
  rw[Int.mul_one]
 done:=by
  intro X hP hw hK hc i pins s σ H E I hf st hg
  subst hP hw hK
  obtain⟨f0,f1,f2,f3,f4,f5⟩:=hf it (by simp)
  exact wpAny_pyNext_range_end (I.ok.hd hc) st (by have:n≤i:=hg; omega) fun h' eb=>⟨rfl,I.turned (t':=s.toks) (fun b o hb e=>eb b o hb e) f0 f1 f3 f4 f5⟩
 self:=fun _ _ _ _ _ st h=>wpAny_pyIter_rangeiter st h
end L2
namespace L2
open PySem PySem.Spec PyProof.Rows
section
variable {X:Cx}{tg:Expr}
theorem range_it{pins:List (Addr×Obj)}{σ:St}{H:Hp}{s:Shared}{R:It→Hp→Prop}{E:Value→Shared→Prop}{lo hi:Int}{t u v:Tok}{tk:Nat}(I:Inv X pins σ H s)(h1:-(2 ^ 62)≤lo)(h2:lo<2 ^ 62)(h3:-(2 ^ 62)≤hi)(h4:hi<2 ^ 62)
  (q:R (Itr lo (hi - lo).toNat) H):wpAny (model X.prog X.w) X.A (pyIter (.ref s.heap.objs.size)) (PIE X pins σ tg R) E { s with heap:=s.heap.push { cls:=.type "range",data:=.fields #[.int lo t,.int hi u,.int 1 v] },toks:=tk }:=by
 refine wpAny_pyIter_range (IsRange.new ..) (small_one h1 h2 h3 h4) ?_
 have I1:Inv X pins σ H { s with heap:=s.heap.push { cls:=.type "range",data:=.fields #[.int lo t,.int hi u,.int 1 v] },toks:=tk }:=I.kept fun b o e=>Heap.get?_push_of_some _ e
 refine⟨(s.heap.push { cls:=.type "range",data:=.fields #[.int lo t,.int hi u,.int 1 v] }).objs.size,[(s.heap.push { cls:=.type "range",data:=.fields #[.int lo t,.int hi u,.int 1 v] }).objs.size],_,_,H,rfl,
  I1.kept (t':=tk) fun b o e=>Heap.get?_push_of_some _ e,turn_range _ lo (hi - lo).toNat,?_,fun b hb=>?_,q⟩
 ·have e1:lo+((0:Nat):Int)*1=lo:=by simp
  have e2:(((hi - lo).toNat:Nat):Int) - ((0:Nat):Int)=Builtin.Range.rangeSize lo hi 1:=by rw[rangeSize_one]; split<;>omega
  show IsRangeIter _ _ (lo+((0:Nat):Int)*1) ((((hi - lo).toNat:Nat):Int) - ((0:Nat):Int)) 1
  rw[e1,e2]
  exact Heap.get?_push_size _ rfl
 ·have e:b=(s.heap.push { cls:=.type "range",data:=.fields #[.int lo t,.int hi u,.int 1 v] }).objs.size:=by simpa using hb
  subst e
  exact I1.fpOk (Nat.le_refl _) (I1.hok.fresh (Nat.le_refl _))
noncomputable def iRng1(ta:TA):TI:=fun σ H R=>ta σ H fun vs H1=>∃ j:Int,vs=[.int j]∧-(2 ^ 62)≤j∧j<2 ^ 62∧R (Itr 0 j.toNat) H1
noncomputable def iRng2(ta:TA):TI:=fun σ H R=>ta σ H fun vs H1=>∃ i j:Int,vs=[.int i,.int j]∧(-(2 ^ 62)≤i∧i<2 ^ 62∧-(2 ^ 62)≤j∧j<2 ^ 62)∧R (Itr i (j - i).toNat) H1
theorem pi_range1{a:Expr}{ta:TA}{p pos:Pos}(hg:Gl X "range")(hm:X.mg "range" = none)(ha:PA X [a] ta)(hs:starEach [a] X.env=[(false,eval a X.env)]:=by rfl):PI X tg (.Call (.Name "range" p) [a] [] pos) (iRng1 ta):=by
 intro pins s σ H R I h
 refine Call_ (ld_blt I hg hm boot_range (PyProof.Rows.callWith_type1 (thn (ha pos pins s σ H _ I h) fun us s1 ⟨vs,H1,I1,r1,q1⟩=>?_) hs rfl))
 obtain⟨j,e,q1,q2,q⟩:=q1
 subst e
 cases r1 with
 |cons r rr=>
  cases rr
  obtain⟨t,rfl⟩:=r
  exact call_range_1 (range_it I1 (by omega) (by omega) q1 q2 (by simpa using q))
theorem pi_range2{a b:Expr}{ta:TA}{p pos:Pos}(hg:Gl X "range")(hm:X.mg "range" = none)(ha:PA X [a,b] ta)(hs:starEach [a,b] X.env=[(false,eval a X.env),(false,eval b X.env)]:=by rfl)(hs2:starEach [b] X.env=[(false,eval b X.env)]:=by rfl):
  PI X tg (.Call (.Name "range" p) [a,b] [] pos) (iRng2 ta):=by
 intro pins s σ H R I h
 refine Call_ (ld_blt I hg hm boot_range (PyProof.Rows.callWith_type1 (thn (ha pos pins s σ H _ I h) fun us s1 ⟨vs,H1,I1,r1,q1⟩=>?_) (by rw[hs,hs2]) (by rw[hs2]; rfl)))
 obtain⟨i,j,e,⟨q1,q2,q3,q4⟩,q⟩:=q1
 subst e
 cases r1 with
 |cons r rr=>
  cases rr with
  |cons r' rr=>
   cases rr
   obtain⟨t,rfl⟩:=r
   obtain⟨t',rfl⟩:=r'
   exact call_range_2 (range_it I1 q1 q2 q3 q4 q)
noncomputable def tFor(wi:TI)(g:TG)(tb:TS):TS:=fun D σ H=>wi σ H fun J H1=>∃ W:Nat→Nat→St→Hp→Prop,(∃ m,W 0 m σ H1)∧∀ i m σ H,W i m σ H→
 (J.stop i H∧D.nx σ H)∨(J.go i H∧∃ N:St→Hp→Prop,(∀ σ' H',N σ' H'→∃ m',m'<m∧W (i+1) m' σ' H')∧∀ x H',J.yld i H x H'→g x σ H' fun σ2 H2=>tb { D with nx:=N,ct:=N,bk:=D.nx } σ2 H2)
noncomputable def pinsAt(fp:List Addr)(h:Heap):List (Addr×Obj):=fp.filterMap fun b=>(h.get? b).map fun o=>(b,o)
theorem mem_pinsAt{fp:List Addr}{h:Heap}{b:Addr}{o:Obj}(hb:b∈fp)(e:h.get? b=some o):(b,o)∈pinsAt fp h:=List.mem_filterMap.mpr ⟨b,hb,by rw[e]; rfl⟩
theorem of_pinsAt{fp:List Addr}{h:Heap}{p:Addr×Obj}(hp:p∈pinsAt fp h):p.1∈fp∧h.get? p.1=some p.2:=by
 obtain⟨b,hb,e⟩:=List.mem_filterMap.mp hp
 cases q:h.get? b with
 |none=>rw[q]at e; cases e
 |some o=>
  rw[q]at e
  have e':(b,o)=p:=Option.some.inj e
  subst e'
  exact⟨hb,q⟩
theorem Inv.pinned{pins:List (Addr×Obj)}{σ:St}{H:Hp}{s:Shared}{fp:List Addr}(I:Inv X pins σ H s)(hf:∀ b∈fp,FpOk X pins H b)(ho:∀ b∈fp,∃ o,s.heap.get? b=some o∧∀ v,o.data≠.cell v):Inv X (pins++pinsAt fp s.heap) σ H s:=
 I.pins_of fun p hp=>(List.mem_append.mp hp).elim (fun z=>I.pin p (List.mem_append_right _ z)) fun z=>by
  obtain⟨hb,e⟩:=of_pinsAt z
  obtain⟨f0,f1,f2,_⟩:=hf p.1 hb
  obtain⟨o,e',d⟩:=ho p.1 hb
  rw[e]at e'; cases e'
  exact⟨e,f0,f1,f2,d⟩
theorem Inv.unpinned{pins pl:List (Addr×Obj)}{σ:St}{H:Hp}{s:Shared}(I:Inv X (pins++pl) σ H s):Inv X pins σ H s:=I.pins_of fun p hp=>I.pin p (List.mem_append_right _ (List.mem_append_left _ hp))
theorem ps_for{iter:Expr}{body:List Stmt}{wi:TI}{g:TG}{tb:TS}{pos:Pos}(hp:PassesOwn (model X.prog X.w) X.A X.env X.xe)(hc:X.calm=true)(hi:PI X tg iter wi)(hg:PG X tg g)(hb:PSs X body tb)
  (hs:∀ x,foldedSetIterable iter X.env x=pure x):PS X (.For tg iter body [] pos) (tFor wi g tb):=by
 intro pins s σ H D I h
 refine wpAny_For (thn (hi pins s σ H _ I h) fun v s1 h1=>thn h1 fun itv s2 h2=>?_) hs
 obtain⟨it,fp,tn,J,H2,e,I2,T,st2,f2,W,⟨m0,w0⟩,turn⟩:=h2
 subst e
 have stat:∀ {H':Hp},(∀ b∈fp,H' b=none)→∀ b∈fp,FpOk X pins H' b:=fun hn b hb=>⟨hn b hb,(f2 b hb).2⟩
 refine codeAny_forLoop_any (fun n s'=>∃ i σ' H',Inv X pins σ' H' s'∧tn i s'.heap∧(∀ b∈fp,H' b=none)∧W i n σ' H') ?_ m0 ⟨0,σ,H2,I2,st2,fun b hb=>(f2 b hb).1,w0⟩
 rintro n s3 ⟨i,σ3,H3,I3,st3,fr3,w3⟩
 rcases turn i n σ3 H3 w3 with⟨stop,qn⟩|⟨go,N,hN,step⟩
 ·refine wpAny_passesOwn hp (thn (T.done X rfl rfl rfl hc i pins s3 σ3 H3 X.xe I3 (stat fr3) st3 stop) fun r s4 ⟨hr,I4⟩=>?_)
  subst hr
  exact wpAny_execs_nil ⟨σ3,H3,I4,qn⟩
 ·refine wpAny_passesOwn hp (thn (T.item X rfl rfl rfl hc i pins s3 σ3 H3 X.xe I3 (stat fr3) st3 go) fun r s4 ⟨u,hr,h4⟩=>?_)
  subst hr
  refine wpAny_passesOwn hp (thn h4 fun _ s5 ⟨x,H5,I5,r5,y5,st5,fr5⟩=>?_)
  have I5':=I5.pinned (stat fr5) (T.obj _ _ st5)
  refine wpAny_passesOwn hp (thn (hg _ s5 σ3 H5 x u _ I5' r5 (step x H5 y5)) fun _ s6 ⟨σ6,H6,I6,q6⟩=>?_)
  refine wpAny_passesOwn hp (thn (hb _ s6 σ6 H6 _ I6 q6) fun f s7 q7=>?_)
  have again:∀ {σ7:St}{H7:Hp},Inv X (pins++pinsAt fp s5.heap) σ7 H7 s7→N σ7 H7→∃ m,m<n∧∃ i σ' H',Inv X pins σ' H' s7∧tn i s7.heap∧(∀ b∈fp,H' b=none)∧W i m σ' H':=fun {σ7 H7} I7 n7=>by
   obtain⟨m',hm,w7⟩:=hN σ7 H7 n7
   refine⟨m',hm,i+1,σ7,H7,I7.unpinned,T.keep _ _ _ st5 fun b hb o e=>(I7.pin (b,o) (List.mem_append_right _ (List.mem_append_right _ (mem_pinsAt hb e)))).1,fun b hb=>?_,w7⟩
   obtain⟨o,e,d⟩:=T.obj _ _ st5 b hb
   exact(I7.pin (b,o) (List.mem_append_right _ (List.mem_append_right _ (mem_pinsAt hb e)))).2.1
  cases f with
  |next=>obtain⟨σ7,H7,I7,n7⟩:=q7; exact again I7 n7
  |cont=>obtain⟨σ7,H7,I7,n7⟩:=q7; exact again I7 n7
  |brk=>obtain⟨σ7,H7,I7,q7⟩:=q7; exact⟨σ7,H7,I7.unpinned,q7⟩
  |ret v=>obtain⟨x7,σ7,H7,I7,r7,q7⟩:=q7; exact⟨x7,σ7,H7,I7.unpinned,r7,q7⟩
end
end L2
namespace L2
open PySem PySem.Spec PyProof.Rows
abbrev R2:=V→V→Hp→VK→Prop
def OpR(X:Cx)(f:Value→Value→Sem Value)(r:R2):Prop:=
 ∀ (pins:List (Addr×Obj)) (s:Shared) (σ:St) (H:Hp) (x y:V) (v u:Value) (Q:VK),Inv X pins σ H s→RelV x v→RelV y u→r x y H Q→
  wpAny (model X.prog X.w) X.A (f v u) (EP X pins σ Q) X.xe s
def CallR(X:Cx)(f:Value)(r:List V→Hp→VK→Prop):Prop:=
 ∀ (pins:List (Addr×Obj)) (s:Shared) (σ:St) (H:Hp) (xs:List V) (us:List Value) (Q:VK),Inv X pins σ H s→Vals xs us→r xs H Q→
  wpAny (model X.prog X.w) X.A (call f us) (EP X pins σ Q) X.xe s
def TruR(X:Cx)(r:V→Hp→(Bool→Hp→Prop)→Prop):Prop:=
 ∀ (pins:List (Addr×Obj)) (s:Shared) (σ:St) (H:Hp) (x:V) (v:Value) (Q:Bool→Hp→Prop),Inv X pins σ H s→RelV x v→r x H Q→
  wpAny (model X.prog X.w) X.A (truthy v) (TP X pins σ Q) X.xe s
noncomputable def tOp(r:R2)(ta tb:TE):TE:=fun σ H Q=>ta σ H fun x H1=>tb σ H1 fun y H2=>r x y H2 Q
noncomputable def rI(C:Int→Int→Prop)(g:Int→Int→V):R2:=fun x y H Q=>∃ i j,x=.int i∧y=.int j∧C i j∧Q (g i j) H
noncomputable def rI0(g:Int→Int→V):R2:=fun x y H Q=>∃ i j,x=.int i∧y=.int j∧Q (g i j) H
section
variable {X:Cx}{a b c:Expr}{ta tb tc:TE}{pos:Pos}
theorem binT(ha:PE X a ta)(hb:PE X b tb){pins:List (Addr×Obj)}{s:Shared}{σ:St}{H:Hp}{R:V→V→Hp→Prop}(I:Inv X pins σ H s)
  (h:ta σ H fun x H1=>tb σ H1 fun y H2=>R x y H2){Q:Value→Shared→Prop}{f:Value→Value→Sem Value}
  (hf:∀ v u s2 x y H2,Inv X pins σ H2 s2→RelV x v→RelV y u→R x y H2→wpAny (model X.prog X.w) X.A (f v u) Q X.xe s2) :
  wpAny (model X.prog X.w) X.A (eval a X.env) (fun v s₁=>wpAny (model X.prog X.w) X.A (eval b X.env) (fun u s₂=>wpAny (model X.prog X.w) X.A (f v u) Q X.xe s₂) X.xe s₁) X.xe s:=by
 refine thn (ha pins s σ H _ I h) fun v s1 ⟨x,H1,I1,r1,q1⟩=>?_
 refine thn (hb pins s1 σ H1 _ I1 q1) fun u s2 ⟨y,H2,I2,r2,q2⟩=>?_
 exact hf v u s2 x y H2 I2 r1 r2 q2
theorem pe_op{op:Operator}{r:R2}(ho:OpR X (binaryOp op) r)(ha:PE X a ta)(hb:PE X b tb):PE X (.BinOp a op b pos) (tOp r ta tb):=by
 intro pins s σ H Q I h
 exact wpAny_BinOp (binT ha hb I h fun v u s2 x y H2 I2 rx ry q=>ho pins s2 σ H2 x y v u Q I2 rx ry q)
theorem opI{f:Value→Value→Sem Value}{C:Int→Int→Prop}{g:Int→Int→Int}
  (rule:∀ (i j:Int) (t u:Tok) (s:Shared) (Q:Value→Shared→Prop) (E:Value→Shared→Prop),C i j→Q (.int (g i j) s.toks) { s with toks:=s.toks+1 }→wpAny (model X.prog X.w) X.A (f (.int i t) (.int j u)) Q E s) :
  OpR X f (rI C fun i j=>.int (g i j)):=by
 intro pins s σ H x y v u Q I rx ry h
 obtain⟨i,j,rfl,rfl,hc,q⟩:=h
 obtain⟨t,rfl⟩:=rx
 obtain⟨t',rfl⟩:=ry
 exact rule i j t t' s _ _ hc ⟨.int (g i j),H,I.tok _,⟨_,rfl⟩,q⟩
theorem opI0{f:Value→Value→Sem Value}{g:Int→Int→Int}
  (rule:∀ (i j:Int) (t u:Tok) (s:Shared) (Q:Value→Shared→Prop) (E:Value→Shared→Prop),Q (.int (g i j) s.toks) { s with toks:=s.toks+1 }→wpAny (model X.prog X.w) X.A (f (.int i t) (.int j u)) Q E s) :
  OpR X f (rI0 fun i j=>.int (g i j)):=by
 intro pins s σ H x y v u Q I rx ry h
 obtain⟨i,j,rfl,rfl,q⟩:=h
 obtain⟨t,rfl⟩:=rx
 obtain⟨t',rfl⟩:=ry
 exact rule i j t t' s _ _ ⟨.int (g i j),H,I.tok _,⟨_,rfl⟩,q⟩
theorem opB0{f:Value→Value→Sem Value}{g:Int→Int→Bool}
  (rule:∀ (i j:Int) (t u:Tok) (s:Shared) (Q:Value→Shared→Prop) (E:Value→Shared→Prop),Q (.bool (g i j)) s→wpAny (model X.prog X.w) X.A (f (.int i t) (.int j u)) Q E s) :
  OpR X f (rI0 fun i j=>.bl (g i j)):=by
 intro pins s σ H x y v u Q I rx ry h
 obtain⟨i,j,rfl,rfl,q⟩:=h
 obtain⟨t,rfl⟩:=rx
 obtain⟨t',rfl⟩:=ry
 exact rule i j t t' s _ _ ⟨.bl (g i j),H,I,rfl,q⟩
def CPow(i j:Int):Prop:=0≤j∧j≤1000000∧i.natAbs<2 ^ 64
def CMul(i j:Int):Prop:=(-(2 ^ 64)<i∧i<2 ^ 64)∨(-(2 ^ 64)<j∧j<2 ^ 64)
theorem CMul.ok{i j:Int}(h:CMul i j):IntMulOk i j:=by
 rcases h with⟨h1,h2⟩|⟨h1,h2⟩
 ·exact .of_left (intBits_le_64 h1 h2)
 ·exact .of_right (intBits_le_64 h1 h2)
theorem op_add:OpR X (binaryOp .Add) (rI0 fun i j=>.int (i+j)):=opI0 fun _ _ _ _ _ _ _ q=>add_int q
theorem op_sub:OpR X (binaryOp .Sub) (rI0 fun i j=>.int (i - j)):=opI0 fun _ _ _ _ _ _ _ q=>sub_int q
theorem op_mul:OpR X (binaryOp .Mult) (rI CMul fun i j=>.int (i*j)):=opI fun _ _ _ _ _ _ _ hc q=>mul_int q hc.ok
theorem op_mod:OpR X (binaryOp .Mod) (rI (fun _ j=>0<j) fun i j=>.int (i % j)):=opI fun i j _ _ _ _ _ hc q=>by
 have h1:(0:Int)<j:=hc
 exact mod_int' (by omega) (by rw[Int.fmod_eq_emod_of_nonneg i (by omega)]; exact q)
theorem op_pow:OpR X (binaryOp .Pow) (rI CPow fun i j=>.int (i ^ j.toNat)):=opI fun _ _ _ _ _ _ _ hc q=>pow_int_small hc.1 hc.2.1 hc.2.2 q
end
section
variable {X:Cx}{a b c:Expr}{ta tb tc:TE}{pos:Pos}
theorem fin_bl{pins:List (Addr×Obj)}{σ:St}{H:Hp}{s:Shared}{Q:VK}{k k':Bool}(I:Inv X pins σ H s)(q:Q (.bl k) H)(e:k=k'):EP X pins σ Q (.bool k') s:=by
 subst e
 exact⟨.bl k,H,I,rfl,q⟩
theorem op_lt:OpR X (compareOp .Lt) (rI0 fun i j=>.bl (decide (i<j))):=opB0 fun _ _ _ _ _ _ _ q=>lt_int q
theorem op_le:OpR X (compareOp .LtE) (rI0 fun i j=>.bl (decide (i≤j))):=opB0 fun _ _ _ _ _ _ _ q=>le_int q
theorem op_gt:OpR X (compareOp .Gt) (rI0 fun i j=>.bl (decide (j<i))):=opB0 fun _ _ _ _ _ _ _ q=>gt_int q
theorem op_ge:OpR X (compareOp .GtE) (rI0 fun i j=>.bl (decide (j≤i))):=opB0 fun _ _ _ _ _ _ _ q=>ge_int q
theorem op_in_str:OpR X (compareOp .In) (fun x y H Q=>∃ i j,x=.str i∧y=.str j∧Q (.bl (!(Builtin.Str.occurrences j i 0 j.length 1).isEmpty)) H):=by
 intro pins s σ H x y v u Q I rx ry h
 obtain⟨i,j,rfl,rfl,q⟩:=h
 obtain⟨t,rfl⟩:=rx
 obtain⟨t',rfl⟩:=ry
 exact in_str (fin_bl I q rfl)
theorem op_isN:OpR X (compareOp .Is) (fun x y H Q=>y=.non∧Q (.bl (decide (x=.non))) H):=by
 intro pins s σ H x y v u Q I rx ry h
 obtain⟨rfl,q⟩:=h
 cases ry
 refine is_none_gen (fin_bl I q ?_)
 cases x<;>first
  |(cases rx; rfl)
  |(obtain⟨t,rfl⟩:=rx; rfl)
theorem op_notN:OpR X (compareOp .IsNot) (fun x y H Q=>y=.non∧Q (.bl (!decide (x=.non))) H):=by
 intro pins s σ H x y v u Q I rx ry h
 obtain⟨rfl,q⟩:=h
 cases ry
 refine isnot_none_gen (fin_bl I q ?_)
 cases x<;>first
  |(cases rx; rfl)
  |(obtain⟨t,rfl⟩:=rx; rfl)
theorem op_notin_str:OpR X (compareOp .NotIn) (fun x y H Q=>∃ i j,x=.str i∧y=.str j∧Q (.bl (!(!(Builtin.Str.occurrences j i 0 j.length 1).isEmpty))) H):=by
 intro pins s σ H x y v u Q I rx ry h
 obtain⟨i,j,rfl,rfl,q⟩:=h
 obtain⟨t,rfl⟩:=rx
 obtain⟨t',rfl⟩:=ry
 exact notIn_str (fin_bl I q rfl)
theorem OpR.or{f:Value→Value→Sem Value}{r r':R2}(h:OpR X f r)(h':OpR X f r'):OpR X f (fun x y H Q=>r x y H Q∨r' x y H Q):=by
 intro pins s σ H x y v u Q I rx ry q
 rcases q with q|q
 ·exact h pins s σ H x y v u Q I rx ry q
 ·exact h' pins s σ H x y v u Q I rx ry q
theorem pe_cmpR{op:CmpOp}{r:R2}(ho:OpR X (compareOp op) r)(ha:PE X a ta)(hb:PE X b tb)(hm:behindInMarks op b=false):PE X (.Compare a [op] [b] pos) (tOp r ta tb):=by
 intro pins s σ H Q I h
 exact wpAny_Compare1 (binT ha hb I h fun v u s2 x y H2 I2 rx ry q=>ho pins s2 σ H2 x y v u Q I2 rx ry q) hm
noncomputable def tTest(t:TE):TT:=fun σ H Q=>t σ H fun x H'=>∃ k,x=.bl k∧Q k H'
theorem pt_cmpR{op:CmpOp}{r:R2}(ho:OpR X (compareOp op) r)(ha:PE X a ta)(hb:PE X b tb)(hm:behindInMarks op b=false):PT X (.Compare a [op] [b] pos) (tTest (tOp r ta tb)):=by
 intro pins s σ H Q I h
 refine wpAny_isTrue_Compare1 (thn (ha pins s σ H _ I h) fun v s1 ⟨x,H1,I1,r1,q1⟩=>thn (hb pins s1 σ H1 _ I1 q1) fun u s2 ⟨y,H2,I2,r2,q2⟩=>
  thn (ho pins s2 σ H2 x y v u _ I2 r1 r2 q2) fun c s3 ⟨z,H3,I3,r3,k,e,q3⟩=>?_) hm
 subst e
 cases r3
 exact wpAny_truthy_bool ⟨H3,I3,q3⟩
noncomputable def tChain(r r':R2)(ta tb tc:TE):TE:=fun σ H Q=>ta σ H fun x H1=>tb σ H1 fun y H2=>r x y H2 fun z H3=>∃ k,z=.bl k∧
 (if k=true then tc σ H3 fun w' H4=>r' y w' H4 Q else Q (.bl false) H3)
theorem pe_chain{op op':CmpOp}{r r':R2}(ho:OpR X (compareOp op) r)(ho':OpR X (compareOp op') r')(ha:PE X a ta)(hb:PE X b tb)(hc:PE X c tc)
  (hm:lastMarks [op,op'] [b,c]=false):PE X (.Compare a [op,op'] [b,c] pos) (tChain r r' ta tb tc):=by
 intro pins s σ H Q I h
 refine Compare_chain (thn (ha pins s σ H _ I h) fun v s1 ⟨x,H1,I1,r1,q1⟩=>chain_link (thn (hb pins s1 σ H1 _ I1 q1) fun u s2 ⟨y,H2,I2,r2,q2⟩=>
  thn (ho pins s2 σ H2 x y v u _ I2 r1 r2 q2) fun d s3 ⟨z,H3,I3,r3,k,e,q3⟩=>?_)) hm
 subst e
 cases r3
 refine wpAny_truthy_bool ?_
 cases k with
 |false=>exact ite_ff ⟨.bl false,H3,I3,rfl,q3⟩
 |true=>exact ite_tt (chain_last (thn (hc pins s3 σ H3 _ I3 q3) fun w' s4 ⟨z',H4,I4,r4,q4⟩=>ho' pins s4 σ H4 y z' u w' Q I4 r2 r4 q4))
theorem pt_chain{op op':CmpOp}{r r':R2}(ho:OpR X (compareOp op) r)(ho':OpR X (compareOp op') r')(ha:PE X a ta)(hb:PE X b tb)(hc:PE X c tc)
  (hm:lastMarks [op,op'] [b,c]=false):PT X (.Compare a [op,op'] [b,c] pos) (tTest (tChain r r' ta tb tc)):=by
 intro pins s σ H Q I h
 refine isTrue_chain (thn (ha pins s σ H _ I h) fun v s1 ⟨x,H1,I1,r1,q1⟩=>test_link (thn (hb pins s1 σ H1 _ I1 q1) fun u s2 ⟨y,H2,I2,r2,q2⟩=>
  thn (ho pins s2 σ H2 x y v u _ I2 r1 r2 q2) fun d s3 ⟨z,H3,I3,r3,k,e,q3⟩=>?_)) hm
 subst e
 cases r3
 refine wpAny_truthy_bool ?_
 cases k with
 |false=>
  obtain⟨k',e',q'⟩:=q3
  cases e'
  exact ite_ff ⟨H3,I3,q'⟩
 |true=>
  refine ite_tt (test_last (thn (hc pins s3 σ H3 _ I3 q3) fun w' s4 ⟨z',H4,I4,r4,q4⟩=>thn (ho' pins s4 σ H4 y z' u w' _ I4 r2 r4 q4) fun d' s5 ⟨z2,H5,I5,r5,k2,e2,q5⟩=>?_))
  subst e2
  cases r5
  exact wpAny_truthy_bool ⟨H5,I5,q5⟩
def TruV(K:PySem.W.Frag)(x:V)(H:Hp)(k:Bool):Prop:=
 match x with
 |.non=>k=false
 |.bl b=>k=b
 |.int i=>k=(i != 0)
 |.str y=>y.length≤sizeLine∧k=((y.length:Int) != 0)
 |.byt y=>y.size≤sizeLine∧k=((y.size:Int) != 0)
 |.ref p=>(∃ xs,SqL K H p xs∧k = !xs.isEmpty)∨(∃ xs,SqT K H p xs∧k = !xs.isEmpty)∨∃ kvs,H p=some (.dK kvs)∧k = !kvs.isEmpty
 |_=>False
theorem isEmpty_kv{κ:Type}{kvs:List (κ×V)}{vs:List (κ×Value)}(r:KV kvs vs):(!vs.isEmpty) = !kvs.isEmpty:=by
 cases r<;>rfl
theorem isEmpty_of{xs:List V}{its:List Value}(r:Vals xs its):(!its.toArray.isEmpty) = !xs.isEmpty:=by
 cases r<;>simp
theorem line63:(sizeLine:Nat)<2 ^ 63:=by rw[sizeLine_eq]; decide
theorem tru_ok:TruR X (fun x H Q=>∃ k,TruV X.K x H k∧Q k H):=by
 intro pins s σ H x v Q I rx h
 obtain⟨k,e,q⟩:=h
 have hl:=line63
 have hs:sizeLine=16777216:=sizeLine_eq
 cases x with
 |non=>
  cases rx
  have e':k=false:=e
  subst e'
  exact truthy_none ⟨H,I,q⟩
 |bl b=>
  cases rx
  have e':k=b:=e
  subst e'
  exact wpAny_truthy_bool ⟨H,I,q⟩
 |int i=>
  obtain⟨t,rfl⟩:=rx
  have e':k=(i != 0):=e
  subst e'
  exact PySem.P.truthy_int ⟨H,I,q⟩
 |str y=>
  obtain⟨t,rfl⟩:=rx
  obtain⟨hy,e'⟩:y.length≤sizeLine∧k=((y.length:Int) != 0):=e
  subst e'
  exact PySem.P.truthy_str (by omega) ⟨H,I.tok _,q⟩
 |byt y=>
  obtain⟨t,rfl⟩:=rx
  obtain⟨hy,e'⟩:y.size≤sizeLine∧k=((y.size:Int) != 0):=e
  subst e'
  exact PySem.W.truthy_bytes (by omega) ⟨H,I.tok _,q⟩
 |ref p=>
  cases rx
  have e':(∃ xs,SqL X.K H p xs∧k = !xs.isEmpty)∨(∃ xs,SqT X.K H p xs∧k = !xs.isEmpty)∨∃ kvs,H p=some (.dK kvs)∧k = !kvs.isEmpty:=e
  rcases e' with⟨xs,hx,e'⟩|⟨xs,hx,e'⟩|⟨kvs,hx,e'⟩
  ·subst e'
   obtain⟨its,r,pl,hz⟩:=I.list hx
   have hlen:=r.length
   exact wpAny_truthy_list pl.isList (by simp only[List.size_toArray]; omega) ⟨H,I.tok _,by rw[isEmpty_of r]; exact q⟩
  ·subst e'
   obtain⟨its,r,pl,hz⟩:=I.tuple hx
   have hlen:=r.length
   exact truthy_tuple pl (by simp only[List.size_toArray]; omega) ⟨H,I.tok _,by rw[isEmpty_of r]; exact q⟩
  ·subst e'
   obtain⟨hz,hS,vs,r,m⟩:kvs.length≤sizeLine∧(p==sysModules)=false∧∃ vs,KV kvs vs∧s.heap.DictOf (mixKind X.prog X.w) p vs:=I.hok p _ hx
   have hlen:kvs.length=vs.length:=Paired.length r
   exact wpAny_truthy_dict hS m (by omega) ⟨H,I.tok _,by rw[isEmpty_kv r]; exact q⟩
 |_=>exact(show False from e).elim
theorem pt_truth(ha:PE X a ta)(he:∀ whole,isTrue a X.env whole=(do let v ← whole; standAt a.pos; holding [v] (truthy v))):
  PT X a (fun σ H Q=>ta σ H fun x H'=>∃ k,TruV X.K x H' k∧Q k H'):=by
 intro pins s σ H Q I h
 exact isTrue_plain (thn (ha pins s σ H _ I h) fun v s1 ⟨x,H1,I1,r1,q1⟩=>tru_ok pins s1 σ H1 x v Q I1 r1 q1) (he _)
theorem op_add_str:OpR X (binaryOp .Add) (fun x y H Q=>∃ i j,x=.str i∧y=.str j∧i.length+j.length≤sizeLine∧Q (.str (i++j)) H):=by
 intro pins s σ H x y v u Q I rx ry h
 obtain⟨i,j,rfl,rfl,hz,q⟩:=h
 obtain⟨t,rfl⟩:=rx
 obtain⟨t',rfl⟩:=ry
 exact add_str (fun t' tk=>⟨.str (i++j),H,I.tok _,⟨_,rfl⟩,q⟩) hz
theorem vals1{x:V}{us:List Value}(r:Vals [x] us):∃ u,us=[u]∧RelV x u:=by
 cases r with
 |cons r1 r2=>cases r2; exact⟨_,rfl,r1⟩
theorem vals2{x y:V}{us:List Value}(r:Vals [x,y] us):∃ u w',us=[u,w']∧RelV x u∧RelV y w':=by
 cases r with
 |cons r1 r2=>
  cases r2 with
  |cons r3 r4=>cases r4; exact⟨_,_,rfl,r1,r3⟩
theorem call_max2(hc:X.calm=true):CallR X (.builtin "max") (fun xs H Q=>∃ i j,xs=[.int i,.int j]∧Q (.int (if j > i then j else i)) H):=by
 intro pins s σ H xs us Q I r h
 obtain⟨i,j,rfl,q⟩:=h
 obtain⟨u,w',rfl,⟨t,rfl⟩,⟨t',rfl⟩⟩:=vals2 r
 refine max_two_ints (I.ok.hd hc) fun h' tk k=>⟨_,H,I.kept k,?_,q⟩
 by_cases hj:j > i
 ·rw[if_pos hj,if_pos hj]; exact⟨_,rfl⟩
 ·rw[if_neg hj,if_neg hj]; exact⟨_,rfl⟩
theorem call_min2(hc:X.calm=true):CallR X (.builtin "min") (fun xs H Q=>∃ i j,xs=[.int i,.int j]∧Q (.int (if j<i then j else i)) H):=by
 intro pins s σ H xs us Q I r h
 obtain⟨i,j,rfl,q⟩:=h
 obtain⟨u,w',rfl,⟨t,rfl⟩,⟨t',rfl⟩⟩:=vals2 r
 refine min_two_ints (I.ok.hd hc) fun h' tk k=>⟨_,H,I.kept k,?_,q⟩
 by_cases hj:j<i
 ·rw[if_pos hj,if_pos hj]; exact⟨_,rfl⟩
 ·rw[if_neg hj,if_neg hj]; exact⟨_,rfl⟩
theorem call_int1:CallR X (.type "int") (fun xs H Q=>(∃ i,xs=[.int i]∧Q (.int i) H)∨∃ k,xs=[.bl k]∧Q (.int (if k then 1 else 0)) H):=by
 intro pins s σ H xs us Q I r h
 rcases h with⟨i,rfl,q⟩|⟨k,rfl,q⟩
 ·obtain⟨u,rfl,t,rfl⟩:=vals1 r
  exact call_int_int ⟨.int i,H,I,⟨_,rfl⟩,q⟩
 ·obtain⟨u,rfl,r1⟩:=vals1 r
  cases r1
  exact call_int_bool ⟨.int (if k then 1 else 0),H,I.tok _,⟨_,rfl⟩,q⟩
theorem call_str_int:CallR X (.type "str") (fun xs H Q=>∃ i,xs=[.int i]∧i.natAbs.log2<1920∧Q (.str (toString i)) H):=by
 intro pins s σ H xs us Q I r h
 obtain⟨i,rfl,hz,q⟩:=h
 obtain⟨u,rfl,t,rfl⟩:=vals1 r
 exact PySem.P.str_of_int hz ⟨.str _,H,I.tok _,⟨_,rfl⟩,q⟩
end
end L2
namespace L2
open PySem PySem.Spec PyProof.Rows
structure ObjM (h:Heap) (x dx C:Addr) (mA:Str→Option Value):Prop where
 obj:h.get? x=some (PySem.W.instObj C dx)
 ns:h.Ns1 dx mA
 ne:dx≠x
section
variable {prog:Program}{w:World}{A:Around}{E:Value→Shared→Prop}{s:Shared}{K:PySem.W.Frag}{x dx C f:Addr}{mA:Str→Option Value}{name:Str}{v:Value}
end
section
variable {P:Program}{w:World}{H H':Hp}{h h':Heap}{a C dx:Addr}{fs fs':List (Str×V)}
end
structure Cls (K:PySem.W.Frag) (C:Addr):Prop where
 pg:PySem.W.plainGet K C Str.empty=true
 hd:PySem.W.hasDictIn K C=true
 po:PySem.W.plainOver K C=true
 sa:PySem.W.findIn K (.ref C) "__setattr__" = some (some (.builtin "object.__setattr__"))
theorem Cls.get{K:PySem.W.Frag}{C:Addr}(c:Cls K C)(f:Str):PySem.W.plainGet K C f=true:=c.pg
structure Con (K:PySem.W.Frag) (C:Addr) (f:Str) (v:V) (u:Value):Prop where
 at_:PySem.W.findIn K (.ref C) f=some (some u)
 rel:RelV v u
 get:PySem.W.specialIn K u "__get__" = some none
 cp:PySem.W.copiedNames.contains f=false
structure Meth (K:PySem.W.Frag) (C:Addr) (m:Str) (f:Addr):Prop where
 at_:PySem.W.findIn K (.ref C) m=some (some (.ref f))
 fn:PySem.W.isFn K (.ref f)=true
 kp:PySem.W.keepIn K (.ref f)=true
section
variable {X:Cx}{pins:List (Addr×Obj)}{σ:St}{H:Hp}{s:Shared}{a C dx:Addr}{fs:List (Str×V)}{f:Str}{v:V}{A:Around}{E:Value→Shared→Prop}
theorem Inv.made(I:Inv X pins σ H s):Inv X pins σ (upd (upd H s.heap.objs.size (.own (s.heap.objs.size+1))) (s.heap.objs.size+1) (.ins C s.heap.objs.size []))
  { s with heap:=(s.heap.push PySem.W.emptyDict).push (PySem.W.instObj C s.heap.objs.size) }:=by
 have e1:(s.heap.push PySem.W.emptyDict).get? s.heap.objs.size=some PySem.W.emptyDict:=Heap.get?_push_size s.heap rfl
 have e2:((s.heap.push PySem.W.emptyDict).push (PySem.W.instObj C s.heap.objs.size)).get? (s.heap.objs.size+1)=some (PySem.W.instObj C s.heap.objs.size):=by
  have:=Heap.get?_push_size (s.heap.push PySem.W.emptyDict) (o:=PySem.W.instObj C s.heap.objs.size) rfl
  rwa [Heap.size_push]at this
 have e3:(s.heap.push PySem.W.emptyDict).Ns s.heap.objs.size (fun _=>none):=⟨PySem.W.emptyDict,#[],_,e1,rfl,(fun e he=>absurd he (by simp)),fun _=>rfl⟩
 have I1:=I.laid (a:=s.heap.objs.size) (o:=.own (s.heap.objs.size+1)) (h':=s.heap.push PySem.W.emptyDict) (t':=s.toks) (fun b u q=>Heap.get?_push_of_some _ q) (Nat.le_refl _) ⟨_,e1⟩
 refine I1.laid (a:=s.heap.objs.size+1) (o:=.ins C s.heap.objs.size []) (t':=s.toks) (fun b u q=>Heap.get?_push_of_some _ q) (Nat.le_of_eq (Heap.size_push _ _)) ?_
 have ne:s.heap.objs.size≠s.heap.objs.size+1:=Nat.ne_of_lt (Nat.lt_succ_self _)
 refine⟨by rw[upd_ne ne,upd_same],Nat.zero_le _,ne,e2,fun _=>none,(Heap.Ns1.of_empty e3).at fun o q=>Heap.get?_push_of_some _ q,fun _=>True.intro,fun y hy=>absurd rfl hy⟩
end
section
variable {X:Cx}{o e value:Expr}{f:Str}{pos pos' tpos:Pos}{ta tv:TE}
end
section
variable {X:Cx}{pins:List (Addr×Obj)}{σ:St}{H:Hp}{s:Shared}{A:Around}{E:Value→Shared→Prop}{Q:Value→Shared→Prop}{c:Value}{b:Bool}
inductive TyOf (K:PySem.W.Frag) (H:Hp):V→Value→Prop where
 |non:TyOf K H .non (.type "NoneType")
 |bl (x:Bool):TyOf K H (.bl x) (.type "bool")
 |int (i:Int):TyOf K H (.int i) (.type "int")
 |str (x:Str):TyOf K H (.str x) (.type "str")
 |flt (x:UInt64):TyOf K H (.flt x) (.type "float")
 |lst {a:Addr}{xs:List V}(e:H a=some (.lst xs)):TyOf K H (.ref a) (.type "list")
 |frz {a:Addr}{o:Obj}{xs:List V}(e:H a=some (.frz o (.lst xs))):TyOf K H (.ref a) (.type "list")
 |tup {a:Addr}{xs:List V}(e:H a=some (.tup xs)):TyOf K H (.ref a) (.type "tuple")
 |dK {a:Addr}{kvs:List (Key×V)}(e:H a=some (.dK kvs)):TyOf K H (.ref a) (.type "dict")
 |dT {a:Addr}{kvs:List (List Key×V)}(e:H a=some (.dT kvs)):TyOf K H (.ref a) (.type "dict")
 |ins {a C dx:Addr}{fs:List (Str×V)}(e:H a=some (.ins C dx fs)) (cl:Cls K C) (ha:PySem.W.findIn K (.ref C) "__class__" = some (some (.builtin "object.__class__")))
   (hn:PySem.W.specialIn K (.builtin "object.__class__") "__get__" = some (some (.builtin "getset_descriptor.__get__"))) (htk:PySem.W.takesIn K (.builtin "object.__class__")=some true)
   (hm:PySem.W.mroIn K C (.type "object")=some true):TyOf K H (.ref a) (.ref C)
end
end L2
namespace L2
open PySem PySem.Spec PyProof.Rows
structure Room (k:Nat) (A:Around):Prop where
 hd:A.handled=none
 dp:A.depth+3*k+5<recursionLimit
 un:A.units+16*k+200<cLine
theorem Room.mono{j k:Nat}{A:Around}(r:Room k A)(h:j≤k):Room j A:=⟨r.hd,by have:=r.dp; omega,by have:=r.un; omega⟩
theorem Room.deeper{k:Nat}{A:Around}(r:Room (k+1) A)(env:Env):Room k (A.deeper env):=
 ⟨r.hd,by have:=r.dp; show A.depth+1+3*k+5<_; omega,by have:=r.un; show A.units+3+16*k+200<_; omega⟩
theorem Room.in1{k:Nat}{A:Around}(r:Room (k+1) A):Room k A.in1:=
 ⟨r.hd,by have:=r.dp; show A.depth+3*k+5<_; omega,by have:=r.un; show A.units+1+16*k+200<_; omega⟩
theorem Room.depth{k:Nat}{A:Around}(r:Room k A):A.depth<recursionLimit:=by have:=r.dp; omega
theorem Room.units{k:Nat}{A:Around}(r:Room k A):A.units+64<cLine:=by have:=r.un; omega
noncomputable def tNil:TA:=fun _ H Q=>Q [] H
noncomputable def tCons(ta:TE)(tr:TA):TA:=fun σ H Q=>ta σ H fun x H1=>tr σ H1 fun xs H2=>Q (x::xs) H2
section
variable {X:Cx}{e:Expr}{es:List Expr}{te:TE}{t:TA}{pos:Pos}
theorem pa_nil:PA X [] tNil:=fun _ _ _ _ H Q I h=>Calls.spliced_nil ⟨[],H,I,.nil,h⟩
theorem pa_cons(ha:PE X e te)(hr:PA X es t)(hs:starEach (e::es) X.env=(false,eval e X.env)::starEach es X.env:=by rfl):PA X (e::es) (tCons te t):=by
 intro pos pins s σ H Q I h
 rw[hs]
 show wpAny _ _ (spliced ((false,eval e X.env)::backTo pos (starEach es X.env))) _ _ s
 refine Calls.spliced_cons (thn (ha pins s σ H _ I h) fun u s1 ⟨x,H1,I1,r1,q1⟩=>?_)
 exact thn (hr pos pins s1 σ H1 _ I1 q1) fun us s2 ⟨xs,H2,I2,r2,q2⟩=>⟨x::xs,H2,I2,.cons r1 r2,q2⟩
noncomputable def tTup(t:TA):TE:=fun σ H Q=>t σ H fun xs H1=>xs.length≤sizeLine∧∀ p,H1 p=none→Q (.ref p) (upd H1 p (.tup xs))
noncomputable def tLst(t:TA):TE:=fun σ H Q=>t σ H fun xs H1=>xs.length≤sizeLine∧∀ p,H1 p=none→Q (.ref p) (upd H1 p (.lst xs))
theorem pe_tup{x1}(h:PA X es t):PE X (.Tuple es x1 pos) (tTup t):=by
 intro pins s σ H Q I hq
 refine wpAny_Tuple_spliced (thn (h pos pins s σ H _ I hq) fun us s1 ⟨xs,H1,I1,r,z,q⟩=>⟨by rw[← r.length]; exact z,?_⟩)
 have hf:H1 s1.heap.objs.size=none:=I1.hok.fresh (Nat.le_refl _)
 refine⟨.ref s1.heap.objs.size,upd H1 s1.heap.objs.size (.tup xs),I1.laid (t':=s1.toks) (fun b u e=>Heap.get?_push_of_some _ e) (Nat.le_refl _) ?_,rfl,q _ hf⟩
 exact⟨z,us,r,⟨_,Heap.get?_push_size _ rfl,rfl,_,rfl⟩⟩
theorem pe_lst(h:PA X es t):PE X (.List es pos) (tLst t):=by
 intro pins s σ H Q I hq
 refine wpAny_List_spliced (thn (h pos pins s σ H _ I hq) fun us s1 ⟨xs,H1,I1,r,z,q⟩=>⟨by rw[← r.length]; exact z,?_⟩)
 have hf:H1 s1.heap.objs.size=none:=I1.hok.fresh (Nat.le_refl _)
 refine⟨.ref s1.heap.objs.size,upd H1 s1.heap.objs.size (.lst xs),I1.laid (t':=s1.toks) (fun b u e=>Heap.get?_push_of_some _ e) (Nat.le_refl _) ?_,rfl,q _ hf⟩
 exact⟨z,us,0,r,Heap.get?_push_size _ rfl⟩
end
abbrev Sp:=List V→Hp→VK→XK→Prop
abbrev CXT:=List Env→Hp→Shared→XK→Value→Shared→Prop
structure Env0 (P:Program) (w:World) (K:PySem.W.Frag) (mg:Str→Option Value) (base:Heap) (A:Around) (outer:List Env) (s:Shared) (H:Hp):Prop where
 frames:A.frames=some outer
 mod:Mod K mg base
 bs:∀ b o,base.get? b=some o→s.heap.get? b=some o∧H b=none
 bsz:base.objs.size≤s.heap.objs.size
 funs:s.heap.FunFrames base outer
 frf:∀ b∈frs outer,H b=none
 hok:HOk P w H s.heap
 bare:AllBare s.gens
def CE(outer:List Env)(P:Program)(w:World)(H:Hp)(s:Shared)(Q:VK)(u:Value)(s':Shared):Prop:=
 ∃ v H',s'.os=s.os∧AllBare s'.gens∧Un (frs outer) [] H H' s.heap s'.heap∧HOk P w H' s'.heap∧RelV v u∧Q v H'
def CR(CX:CXT)(outer:List Env)(P:Program)(w:World)(H:Hp)(s:Shared)(Q:VK)(E:XK)(r:Result)(s':Shared):Prop:=
 match r with
 |.ok (.ret u)=>CE outer P w H s Q u s'
 |.ok _=>False
 |.error e=>CX outer H s E e s'
structure FnOk (P:Program) (w:World) (K:PySem.W.Frag) (mg:Str→Option Value) (base:Heap) (CX:CXT) (k:Nat) (f:Addr) (fd:FuncData) (ps:List Str) (sp:Sp):Prop where
 len:∀ vs H Q E,sp vs H Q E→vs.length=ps.length
 run:∀ (A:Around) (outer:List Env) (s:Shared) (H:Hp) (args:Args) (us:List Value) (vs:List V) (Q:VK) (E:XK),Room k A→Env0 P w K mg base A outer s H→BindsTo s fd args (ps.zip us)→Vals vs us→sp vs H Q E→
  codeAny (model P w) A (.call (.ref f) args) (CR CX outer P w H s Q E) s
theorem FnOk.mono{P:Program}{w:World}{K:PySem.W.Frag}{mg:Str→Option Value}{base:Heap}{CX:CXT}{j k:Nat}{f:Addr}{fd:FuncData}{ps:List Str}{sp:Sp}(F:FnOk P w K mg base CX j f fd ps sp)(h:j≤k):
  FnOk P w K mg base CX k f fd ps sp:=⟨F.len,fun A outer s H args us vs Q E hr=>F.run A outer s H args us vs Q E (hr.mono h)⟩
theorem FnOk.imp{P:Program}{w:World}{K:PySem.W.Frag}{mg:Str→Option Value}{base:Heap}{CX:CXT}{k:Nat}{f:Addr}{fd:FuncData}{ps:List Str}{sp sp':Sp}(F:FnOk P w K mg base CX k f fd ps sp)
  (h:∀ vs H Q E,sp' vs H Q E→sp vs H Q E):FnOk P w K mg base CX k f fd ps sp':=
 ⟨fun vs H Q E q=>F.len vs H Q E (h _ _ _ _ q),fun A outer s H args us vs Q E hr he hb hv hs=>F.run A outer s H args us vs Q E hr he hb hv (h _ _ _ _ hs)⟩
theorem Env0.in1{P:Program}{w:World}{K:PySem.W.Frag}{mg:Str→Option Value}{base:Heap}{A:Around}{outer:List Env}{s:Shared}{H:Hp}(e:Env0 P w K mg base A outer s H):
  Env0 P w K mg base A.in1 outer s H:=⟨e.frames,e.mod,e.bs,e.bsz,e.funs,e.frf,e.hok,e.bare⟩
section
variable {X:Cx}{pins:List (Addr×Obj)}{σ:St}{H:Hp}{s s':Shared}
theorem Inv.env0(I:Inv X pins σ H s):Env0 X.prog X.w X.K X.mg X.base X.A X.stack s H:=
 ⟨I.ok.frames,I.ok.mod,I.bs,Nat.le_trans I.ok.bsz I.sz,I.stack,I.stkFree,I.hok,I.bare⟩
theorem Inv.after{Q:VK}{u:Value}(I:Inv X pins σ H s)(h:CE X.stack X.prog X.w H s Q u s'):EP X pins σ Q u s':=by
 obtain⟨v,H',os,bare,un,hok,r,q⟩:=h
 obtain⟨hh,g,d,t,os'⟩:=s'
 obtain rfl:os'=s.os:=os
 exact⟨v,H',I.call (h':=hh) (g':=g) (d':=d) (t':=t) (ch:=[]) un hok bare (fun b z=>absurd z (by simp)),r,q⟩
end
noncomputable def tCall(sp:Sp)(dvs:List V)(E:XK)(t:TA):TE:=fun σ H Q=>t σ H fun vs H1=>sp (vs++dvs) H1 Q E
def Binds(K:PySem.W.Frag)(fd:FuncData)(ps:List Str)(ds:List Value):Prop:=
 ∀ (s:Shared) (us:List Value),K.In s.heap→(us++ds).length=ps.length→BindsTo s fd ⟨us,[]⟩ (ps.zip (us++ds))
theorem Binds.all{K:PySem.W.Frag}{fd:FuncData}{ps:List Str}(h:∀ us:List Value,us.length=ps.length→bindArgs fd ⟨us,[]⟩=pure (ps.zip us)):Binds K fd ps []:=fun s us _ hl=>by
 rw[List.append_nil]at hl ⊢
 exact .of_eq (h us hl)
def Passes(CX:CXT)(X:Cx)(E:XK):Prop:=∀ (pins:List (Addr×Obj)) (σ:St) (H:Hp) (s:Shared) (e:Value) (s':Shared),Inv X pins σ H s→CX X.stack H s E e s'→X.xe e s'
section
variable {X:Cx}{CX:CXT}{k:Nat}{f C:Addr}{fd:FuncData}{ps:List Str}{sp:Sp}{dvs:List V}{ds:List Value}{E:XK}{x m:Str}{p pos apos:Pos}{e o:Expr}{es:List Expr}{ta:TE}{t:TA}
theorem run_fn{pins:List (Addr×Obj)}{σ:St}{H:Hp}{s:Shared}{Q:VK}{us:List Value}{vs:List V}(F:FnOk X.prog X.w X.K X.mg X.base CX k f fd ps sp)(hr:Room k X.A)(hb:Binds X.K fd ps ds)(hd:Vals dvs ds)(hx:Passes CX X E)
  (I:Inv X pins σ H s) (r:Vals vs us) (h:sp (vs++dvs) H Q E):wpAny (model X.prog X.w) X.A (call (.ref f) us) (EP X pins σ Q) X.xe s:=by
 have r2:Vals (vs++dvs) (us++ds):=r.append hd
 have hl:(us++ds).length=ps.length:=by rw[← r2.length]; exact F.len _ _ _ _ h
 refine wpAny_call (codeAny_mono (F.run X.A X.stack s H ⟨us,[]⟩ (us++ds) (vs++dvs) Q E hr I.env0 (hb s us I.kIn hl) r2 h) fun r s' hq=>?_)
 cases r with
 |error e=>exact hx pins σ H s e s' I hq
 |ok fl=>
  cases fl with
  |ret u=>exact I.after hq
  |next=>exact False.elim hq
  |brk=>exact False.elim hq
  |cont=>exact False.elim hq
theorem pe_call(F:FnOk X.prog X.w X.K X.mg X.base CX k f fd ps sp)(hr:Room k X.A)(hg:Gl X x)(hm:X.mg x=some (.ref f))(hk:PySem.W.keepIn X.K (.ref f)=true)(hb:Binds X.K fd ps ds)(hd:Vals dvs ds)(hx:Passes CX X E)
  (ha:PA X (e::es) t) (hdb:(x==("__debug__" : Str))=false:=by decide) (he:starEach (e::es) X.env=(false,eval e X.env)::starEach es X.env:=by rfl) (hpl:(backTo pos (starEach es X.env)).any (·.1)=false:=by rfl) :
  PE X (.Call (.Name x p) (e::es) [] pos) (tCall sp dvs E t):=by
 intro pins s σ H Q I h
 refine wpAny_Call_Name_kw (ld_glob I hg hm ?_ hdb)
 refine PySem.W.callWith_K (h₀:=X.base) I.ok.mod.kin hk (thn (ha pos pins s σ H _ I h) fun us s1 ⟨vs,H1,I1,r,q⟩=>⟨I1.kIn,?_⟩) he hpl
 exact run_fn F hr hb hd hx I1 r q
structure Mk (K:PySem.W.Frag) (C f:Addr):Prop where
 makes:PySem.W.makesIn K C=true
 init:PySem.W.findIn K (.ref C) "__init__" = some (some (.ref f))
 fn:PySem.W.isFn K (.ref f)=true
 kp:PySem.W.keepIn K (.ref C)=true
end
section
variable {X:Cx}{CX:CXT}{k:Nat}{f C:Addr}{fd:FuncData}{ps ks:List Str}{sp:Sp}{E:XK}{x m:Str}{p pos apos kpos:Pos}{e o:Expr}{es:List Expr}{kws:List Keyword}{te ta:TE}{t tk:TA}{nm:Option Str}
structure KBinds (K:PySem.W.Frag) (fd:FuncData) (ps ks:List Str) (g:List Value→List Value→List Value) (gV:List V→List V→List V):Prop where
 to:∀ (s:Shared) (us ws:List Value),K.In s.heap→(g us ws).length=ps.length→BindsTo s fd ⟨us,ks.zip ws⟩ (ps.zip (g us ws))
 rel:∀ {vs:List V}{us:List Value}{zs:List V}{ws:List Value},Vals vs us→Vals zs ws→Vals (gV vs zs) (g us ws)
variable {g:List Value→List Value→List Value}{gV:List V→List V→List V}
end
structure FnScope (N P:List Str) (sc:Scope):Prop where
 kind:sc.kind=.function
 co:sc.isCoroutine=false
 gen:sc.isGenerator=false
 nd:N.Nodup
 pre:N.take P.length=P
 par:∀ x∈P,sc.names.lookup x=some .local∨sc.names.lookup x=some .cell
 nofree:∀ y∈sc.names,y.2≠.free
theorem bindL_out{kindOf:Str→Option NameKind}{x:Str}:∀ {binds:List (Str×Value)}{m:Str→Option Value},(∀ v,(x,v) ∉ binds)→bindL kindOf binds m x=m x
 |[],_,_=>rfl
 |(n,v)::r,m,h=>by
  unfold bindL
  rw[bindL_out fun w hw=>h w (List.mem_cons_of_mem _ hw)]
  split
  ·have:x≠n:=by rintro rfl; exact h v List.mem_cons_self
   simp[this]
  ·rfl
theorem bindC_out{kindOf:Str→Option NameKind}{x:Str}:∀ {binds:List (Str×Value)}{m:Str→Option Value},(∀ v,(x,v) ∉ binds)→bindC kindOf binds m x=m x
 |[],_,_=>rfl
 |(n,v)::r,m,h=>by
  unfold bindC
  rw[bindC_out fun w hw=>h w (List.mem_cons_of_mem _ hw)]
  split
  ·rfl
  ·have:x≠n:=by rintro rfl; exact h v List.mem_cons_self
   simp[this]
theorem bindL_get{kindOf:Str→Option NameKind}{x:Str}{v:Value}:∀ {P:List Str}{vs:List Value}{i:Nat}{m:Str→Option Value},P.Nodup→P[i]?=some x→vs[i]?=some v→kindOf x=some .local→
  bindL kindOf (P.zip vs) m x=some v
 |[],_,_,_,_,h,_,_=>by simp at h
 |_::_,[],_,_,_,_,h,_=>by simp at h
 |p::P,w::vs,0,m,nd,h1,h2,hk=>by
  simp at h1 h2; subst h1; subst h2
  show bindL kindOf ((p,w)::P.zip vs) m p=_
  unfold bindL
  rw[bindL_out fun v hv=>(List.nodup_cons.mp nd).1 (List.of_mem_zip hv).1,if_pos hk]
  simp
 |p::P,w::vs,i+1,m,nd,h1,h2,hk=>by
  show bindL kindOf ((p,w)::P.zip vs) m x=_
  unfold bindL
  exact bindL_get (i:=i) (List.nodup_cons.mp nd).2 (by simpa using h1) (by simpa using h2) hk
theorem bindC_get{kindOf:Str→Option NameKind}{x:Str}{v:Value}:∀ {P:List Str}{vs:List Value}{i:Nat}{m:Str→Option Value},P.Nodup→P[i]?=some x→vs[i]?=some v→kindOf x≠some .local→
  bindC kindOf (P.zip vs) m x=some v
 |[],_,_,_,_,h,_,_=>by simp at h
 |_::_,[],_,_,_,_,h,_=>by simp at h
 |p::P,w::vs,0,m,nd,h1,h2,hk=>by
  simp at h1 h2; subst h1; subst h2
  show bindC kindOf ((p,w)::P.zip vs) m p=_
  unfold bindC
  rw[bindC_out fun v hv=>(List.nodup_cons.mp nd).1 (List.of_mem_zip hv).1,if_neg hk]
  simp
 |p::P,w::vs,i+1,m,nd,h1,h2,hk=>by
  show bindC kindOf ((p,w)::P.zip vs) m x=_
  unfold bindC
  exact bindC_get (i:=i) (List.nodup_cons.mp nd).2 (by simpa using h1) (by simpa using h2) hk
noncomputable def start(N:List Str)(vs:List V):St:=vs.map some++List.replicate (N.length - vs.length) none
noncomputable def cxOf(CX:CXT)(P:Program)(w:World)(K:PySem.W.Frag)(mg:Str→Option Value)(base:Heap)(N:List Str)(qual:Str)(scope:Scope)(f:Addr)(cd:Value)(A:Around)(outer:List Env)(s:Shared)(H:Hp)(E:XK):Cx where
 prog:=P
 w:=w
 K:=K
 mg:=mg
 base:=base
 A:=A.deeper (envOfC qual scope s.heap.objs.size f cd)
 N:=N
 s₀:=s
 H₀:=H
 env:=envOfC qual scope s.heap.objs.size f cd
 outer:=outer
 stack:=envOfC qual scope s.heap.objs.size f cd::outer
 ex:=[]
 calm:=true
 fn:=fun _=>true
 pn:=[]
 xe:=fun e s'=>wpAny (model P w) (A.deeper (envOfC qual scope s.heap.objs.size f cd)) (leaving (envOfC qual scope s.heap.objs.size f cd) e) (fun _ s''=>CX outer H s E e s'') (fun e' s''=>CX outer H s E e' s'') s'
theorem cell_has{sc:Scope}{n:Nat}{x:Str}(h:sc.names.lookup x=some .cell):∃ c,(cellsFrom n sc.names []).lookup x=some c:=by
 have q:=PySem.W.cellsFrom_some sc.names n [] (.inl h)
 exact Option.isSome_iff_exists.mp q
theorem inv_start{CX:CXT}{P:Program}{w:World}{K:PySem.W.Frag}{mg:Str→Option Value}{base:Heap}{N ps:List Str}{qual:Str}{scope:Scope}{f:Addr}{cd:Value}{A:Around}{outer:List Env}{s s1:Shared}{H:Hp}{E:XK}{us:List Value}{vs:List V}
  (S:FnScope N ps scope) (hd:A.handled=none) (e0:Env0 P w K mg base A outer s H) (hl:vs.length=ps.length) (r:Vals vs us)
  (x:InCallC s s.heap.objs.size (bindL (envOfC qual scope s.heap.objs.size f cd).kindOf (ps.zip us) fun _=>none) (cellsFrom (s.heap.objs.size+1) scope.names []) (bindC (envOfC qual scope s.heap.objs.size f cd).kindOf (ps.zip us) fun _=>none) s1) :
  Inv (cxOf CX P w K mg base N qual scope f cd A outer s H E) [] (start N vs) H s1:=by
 have hpl:ps.length≤N.length:=by have:=congrArg List.length S.pre; rw[List.length_take]at this; omega
 obtain⟨h1,tk,rfl,hk⟩:=x.done
 have noA:∀ b:Addr,b ∉ (cxOf CX P w K mg base N qual scope f cd A outer s H E).ex:=fun b z=>absurd (show b∈([]:List Addr) from z) (by simp)
 refine⟨⟨e0.mod,S.kind,rfl,rfl,Nat.le_refl _,fun y z c h1 h2=>?_,fun y hy=>?_,fun y c _ h=>?_,fun _=>hd,Around.frames_deeper e0.frames,.inr ⟨rfl,rfl⟩,fun b z=>absurd z (noA b),e0.bs,e0.bsz,fun b _ _=>noA b,fun b z=>absurd z (noA b),e0.funs,e0.frf⟩,
  rfl,e0.bare,Un.kept hk,⟨_,x.toInCall.ns,fun i y v h1 h2 h3=>?_⟩,fun y c h=>⟨_,x.cell y c h⟩,e0.hok.fresh (Nat.le_refl _),fun y c h=>?_,fun p hp=>absurd (show p∈([]:List (Addr×Obj)) from hp) (by simp),e0.hok.kept hk,?_⟩
 ·exact name_of_addr x.apart (PySem.mem_of_lookup h1) (PySem.mem_of_lookup h2)
 ·have hy:scope.names.lookup y=some .cell∨scope.names.lookup y=some .free:=hy
  rcases hy with hy|hy
  ·exact cell_has hy
  ·exact absurd rfl (S.nofree _ (PySem.mem_of_lookup hy))
 ·exact Nat.le_of_lt (x.above y c (PySem.mem_of_lookup h))
 ·have hi:i<vs.length:=by
   unfold start at h2
   by_cases hi:i<vs.length
   ·exact hi
   ·rw[List.getElem?_append_right (by simpa using hi)]at h2
    rw[List.getElem?_replicate]at h2
    split at h2<;>cases h2
  have ha:vs[i]?=some v:=by
   unfold start at h2
   rw[List.getElem?_append_left (by simpa using hi),List.getElem?_map]at h2
   cases e:vs[i]? with
   |none=>rw[e]at h2; cases h2
   |some a=>rw[e]at h2; cases h2; rfl
  obtain⟨u,hu,rv⟩:=r.get ha
  have hp:ps[i]?=some y:=by
   rw[← S.pre,List.getElem?_take_of_lt (by omega)]; exact h1
  have ndP:ps.Nodup:=by rw[← S.pre]; exact S.nd.sublist (List.take_sublist _ _)
  refine⟨u,rv,?_⟩
  rcases S.par y (List.mem_of_getElem? hp) with k|k
  ·exact .inl ⟨k,bindL_get ndP hp hu k⟩
  ·obtain⟨c,e⟩:=cell_has (n:=s.heap.objs.size+1) k
   refine .inr ⟨.inl k,c,e,?_⟩
   have q:=x.cell y c e
   rw[bindC_get ndP hp hu (by show scope.names.lookup y≠_; rw[k]; decide)]at q
   exact q
 ·exact e0.hok.fresh (Nat.le_of_lt (x.above y c (PySem.mem_of_lookup h)))
 ·unfold start
  show _=N.length
  rw[List.length_append,List.length_map,List.length_replicate]
  omega
theorem fn_of{CX:CXT}{P:Program}{w:World}{K:PySem.W.Frag}{mg:Str→Option Value}{base:Heap}{k:Nat}{f:Addr}{name qual:Str}{params:Arguments}{body:List Stmt}{scope:Scope}{dV kV doc pm cdv ct oc:Value}{an od:Option Addr}
  {osl:Array (Option Value)}{N ps:List Str}{sp:Sp}(lk:K.lookup f=some ⟨oc,od,.func (PySem.W.fnOf name qual params body scope dV kV doc pm an cdv ct),osl⟩) (hcd:PySem.W.codeIn K cdv qual=true) (S:FnScope N ps scope)
  (len:∀ vs H Q E,sp vs H Q E→vs.length=ps.length)
  (hbody:∀ (A:Around) (outer:List Env) (s:Shared) (H:Hp) (vs:List V) (Q:VK) (E:XK),Room k (A.deeper (envOfC qual scope s.heap.objs.size f cdv))→sp vs H Q E→
   ∃ t,PSs (cxOf CX P w K mg base N qual scope f cdv A outer s H E) body t∧t { nx:=fun _ H'=>Q .non H',rt:=Q } (start N vs) H) :
  FnOk P w K mg base CX (k+1) f (PySem.W.fnOf name qual params body scope dV kV doc pm an cdv ct) ps sp:=by
 refine⟨len,fun A outer s H args us vs Q E hr e0 hb r hsp=>?_⟩
 have hl:=len _ _ _ _ hsp
 have KX:K.In s.heap:=e0.mod.kin.keeps fun b o e=>(e0.bs b o e).1
 have lim:s.heap.NoLimit:=e0.mod.nolimit.keeps fun b o e=>(e0.bs b o e).1
 have hkind:∀ y∈ps.zip us,scope.names.lookup y.1=some .local∨(scope.names.lookup y.1=some .cell∧((cellsFrom (s.heap.objs.size+1) scope.names []).lookup y.1).isSome=true):=fun ⟨n,v⟩ hy=>by
  rcases S.par n (List.of_mem_zip hy).1 with q|q
  ·exact .inl q
  ·exact .inr ⟨q,PySem.W.cellsFrom_some _ _ _ (.inl q)⟩
 refine codeAny_call_function hr.depth (KX _ _ lk) rfl S.co S.gen rfl (PySem.W.codeRec_of KX hcd) (hb _ _ _ _ ?_)
 refine wpAny_newFunctionEnv_cells S.kind hkind fun env he s1 x=>?_
 subst he
 refine⟨lim.keeps x.toInCall.keep,codeAny_func ?_⟩
 obtain⟨t,ht,hq⟩:=hbody A outer s H vs Q E (hr.deeper _) hsp
 have I:Inv (cxOf CX P w K mg base N qual scope f cdv A outer s H E) [] (start N vs) H s1:=inv_start S hr.hd e0 hl r x
 refine wpAny_mono (ht [] s1 (start N vs) H _ I hq) (fun fl s' hs=>?_) fun e s' hs=>hs
 have fin:∀ {σ':St}{H':Hp}{v:V}{u:Value},Inv (cxOf CX P w K mg base N qual scope f cdv A outer s H E) [] σ' H' s'→RelV v u→Q v H'→CE outer P w H s Q u s':=
  fun {σ' H' v u} J rv q=>⟨v,H',J.os,J.bare,J.base,J.hok,rv,q⟩
 cases fl with
 |ret u=>
  obtain⟨v,σ',H',J,rv,q⟩:=hs
  exact fin J rv q
 |next=>
  obtain⟨σ',H',J,q⟩:=hs
  exact fin (v:=V.non) (u:=Value.none) J rfl q
 |brk=>
  obtain⟨_,_,_,q⟩:=hs
  exact False.elim q
 |cont=>
  obtain⟨_,_,_,q⟩:=hs
  exact False.elim q
end L2
namespace L2
open PySem PySem.Spec PyProof.Rows
section
variable {X:Cx}{x:Str}{p pos:Pos}{e:Expr}{es:List Expr}{t:TA}{id T:String}{r:List V→Hp→VK→Prop}
noncomputable def tCB(r:List V→Hp→VK→Prop)(t:TA):TE:=fun σ H Q=>t σ H fun vs H1=>r vs H1 Q
theorem pe_callB(hc:CallR X (.builtin id) r)(hg:Gl X x)(hm:X.mg x=none)(hv:bootBuiltins x=some (.builtin id))(ha:PA X (e::es) t)(hn:x ≠ "__name__":=by decide)(hdb:(x==("__debug__" : Str))=false:=by decide)
  (he:starEach (e::es) X.env=(false,eval e X.env)::starEach es X.env:=by rfl) (hpl:(backTo pos (starEach es X.env)).any (·.1)=false:=by rfl):PE X (.Call (.Name x p) (e::es) [] pos) (tCB r t):=by
 intro pins s σ H Q I h
 refine wpAny_Call_Name_kw (ld_blt I hg hm hv ?_ hn hdb)
 exact PyProof.Rows.callWith_builtin1 (thn (ha pos pins s σ H _ I h) fun us s1 ⟨vs,H1,I1,r1,q1⟩=>hc pins s1 σ H1 vs us Q I1 r1 q1) he hpl
theorem pe_callTy(hc:CallR X (.type T) r)(hg:Gl X x)(hm:X.mg x=none)(hv:bootBuiltins x=some (.type T))(ha:PA X (e::es) t)(hn:x ≠ "__name__":=by decide)(hdb:(x==("__debug__" : Str))=false:=by decide)
  (he:starEach (e::es) X.env=(false,eval e X.env)::starEach es X.env:=by rfl) (hpl:(backTo pos (starEach es X.env)).any (·.1)=false:=by rfl):PE X (.Call (.Name x p) (e::es) [] pos) (tCB r t):=by
 intro pins s σ H Q I h
 refine wpAny_Call_Name_kw (ld_blt I hg hm hv ?_ hn hdb)
 exact PyProof.Rows.callWith_type1 (thn (ha pos pins s σ H _ I h) fun us s1 ⟨vs,H1,I1,r1,q1⟩=>hc pins s1 σ H1 vs us Q I1 r1 q1) he hpl
end
end L2
namespace HT
open PySem PyProof.Rows
section
open PySem.SeqAt
open PySem.AutoSeq1 (wpAny_loadPart')
open PySem.MeetsSeq PySem.MeetsSeq2 PySem.MeetsSeq3
end
section
variable {prog:Program}{w:World}{A:Around}{E:Value→Shared→Prop}{s:Shared}
theorem cat_tup{t b:Addr}{vs ws:List Value}{Q:Value→Shared→Prop}(ht:IsTup s.heap t vs.toArray)(hb:IsTup s.heap b ws.toArray)(hv:vs≠[])
  (h1:ws=[]→Q (.ref t) s) (h2:ws≠[]→Q (.ref s.heap.objs.size) { s with heap:=s.heap.push { cls:=.type "tuple",data:=.seq (vs++ws).toArray } })
  (hsz:vs.length+ws.length≤sizeLine):wpAny (model prog w) A (binaryOp .Add (.ref t) (.ref b)) Q E s:=by
 obtain⟨⟨cls,dd,data,sl⟩,ho,hc,n,hd⟩:=id ht
 obtain⟨⟨cls2,dd2,data2,sl2⟩,ho2,hc2,n2,hd2⟩:=id hb
 simp only at hc hd hc2 hd2
 subst hc hd hc2 hd2
 have e:vs.toArray++ws.toArray=(vs++ws).toArray:=by simp
 by_cases hw:ws=[]
 ·exact concat_meets ⟨_,ho,rfl⟩ ⟨_,ho2,rfl⟩ noFill_tuple_add seq_tuple_add PySem.F.slot_tuple_add PySem.F.entry_tuple_add (PySem.F.args_tuple_add_2 _ _)
   (tuple_addW1 t b vs.toArray ws.toArray n n2 dd dd2 sl sl2 (by simpa using hv) (by simp[hw])) ⟨ho,ho2,h1 hw⟩
 ·refine concat_meets ⟨_,ho,rfl⟩ ⟨_,ho2,rfl⟩ noFill_tuple_add seq_tuple_add PySem.F.slot_tuple_add PySem.F.entry_tuple_add (PySem.F.args_tuple_add_2 _ _)
   (tuple_addW2 t b vs.toArray ws.toArray n n2 dd dd2 sl sl2 (by simpa using hv) (by simpa using hw) (by rw[List.size_toArray,List.size_toArray]; exact hsz)) ⟨ho,ho2,?_⟩
  rw[e]
  exact h2 hw
noncomputable def sIx(n d:Nat):Option Int→Nat
 |none=>d
 |some v=>if v<0 then(v+(n:Int)).toNat else min v.toNat n
end
end HT
namespace L2
open PySem PySem.Spec PyProof.Rows
abbrev TO:=St→Hp→(Option Int→Hp→Prop)→Prop
theorem intsAre_of{ns:List Int}:∀ {us:List Value},Vals (ns.map V.int) us→IntsAre us ns:=by
 induction ns with
 |nil=>intro us r; rw[List.map_nil]at r; cases r; exact .nil
 |cons n ns ih=>
  intro us r
  rw[List.map_cons]at r
  cases r with
  |cons r1 r2=>
   obtain⟨t,e⟩:=r1
   subst e
   exact .cons n t (ih r2)
section
variable {X:Cx}{e:Expr}{te:TE}{lo hi:Option Expr}{tl th:TO}{pos p2:Pos}
def SlR(X:Cx)(r:V→Option Int→Option Int→Hp→VK→Prop):Prop:=
 ∀ (pins:List (Addr×Obj)) (s:Shared) (σ:St) (H:Hp) (x:V) (v vl vu:Value) (lo hi:Option Int) (sl:Addr) (Q:VK),Inv X pins σ H s→RelV x v→s.heap.IsSliceOf sl vl vu .none→IsPart vl lo→IsPart vu hi→r x lo hi H Q→
  ∃ T id,typeLookup (.type T) "__getitem__" = pure (some (.builtin id))∧s.TypeIs v T∧wpAny (model X.prog X.w) X.A (getItem v (.ref sl)) (EP X pins σ Q) X.xe s
theorem SlR.or{r r':V→Option Int→Option Int→Hp→VK→Prop}(h:SlR X r)(h':SlR X r'):SlR X (fun x lo hi H Q=>r x lo hi H Q∨r' x lo hi H Q):=by
 intro pins s σ H x v vl vu lo hi sl Q I rx hs pl pu q
 rcases q with q|q
 ·exact h pins s σ H x v vl vu lo hi sl Q I rx hs pl pu q
 ·exact h' pins s σ H x v vl vu lo hi sl Q I rx hs pl pu q
noncomputable def cutV(xs:List V)(lo hi:Option Int):List V:=(xs.drop (HT.sIx xs.length 0 lo)).take (HT.sIx xs.length xs.length hi - HT.sIx xs.length 0 lo)
theorem cutV_length(xs:List V)(lo hi:Option Int):(cutV xs lo hi).length≤xs.length:=by
 unfold cutV
 rw[List.length_take,List.length_drop]
 omega
noncomputable def rCatT(K:PySem.W.Frag):R2:=fun x y H Q=>∃ a b xs ys,x=.ref a∧y=.ref b∧SqT K H a xs∧SqT K H b ys∧xs≠[]∧xs.length+ys.length≤sizeLine∧
 (ys=[]→Q (.ref a) H)∧(ys≠[]→∀ p,H p=none→Q (.ref p) (upd H p (.tup (xs++ys))))
theorem Vals.nil_iff{xs:List V}{us:List Value}(r:Vals xs us):us=[]↔xs=[]:=by
 cases r with
 |nil=>simp
 |cons _ _=>simp
theorem op_catT:OpR X (binaryOp .Add) (rCatT X.K):=by
 intro pins s σ H x y v u Q I rx ry h
 obtain⟨a,b,xs,ys,rfl,rfl,ha,hb,hx,hz,q1,q2⟩:=h
 cases rx
 cases ry
 obtain⟨its,r1,p1,_⟩:=I.tuple ha
 obtain⟨its2,r2,p2,_⟩:=I.tuple hb
 refine HT.cat_tup p1 p2 (fun z=>hx (r1.nil_iff.mp z)) (fun z=>⟨.ref a,H,I,rfl,q1 (r2.nil_iff.mp z)⟩) (fun z=>?_) (by rw[← r1.length,← r2.length]; exact hz)
 refine⟨.ref s.heap.objs.size,_,I.laid (t':=s.toks) (o:=.tup (xs++ys)) (fun b ob q=>Heap.get?_push_of_some _ q) (Nat.le_refl _) ?_,rfl,q2 (fun w=>z (r2.nil_iff.mpr w)) _ (I.hok.fresh (Nat.le_refl _))⟩
 exact⟨by rw[List.length_append]; exact hz,_,r1.append r2,IsTup.new _ _⟩
end
end L2
namespace L2
open PySem PySem.Spec PyProof.Rows
noncomputable def ixN(n:Nat)(i:Int):Option Nat:=if 0≤i then(if i<n then some i.toNat else none) else if -(n:Int)≤i then some (i+n).toNat else none
noncomputable def atI{α:Type}(xs:List α)(i:Int):Option α:=(ixN xs.length i).bind fun j=>xs[j]?
theorem ixN_seq{n:Nat}{i:Int}{j:Nat}(h:ixN n i=some j):seqIndex? i n=some j∧j<n∧-(n:Int)≤i∧i<n:=by
 unfold ixN at h
 by_cases h0:0≤i
 ·rw[if_pos h0]at h
  by_cases h1:i<n
  ·rw[if_pos h1]at h
   have e:i.toNat=j:=Option.some.inj h
   exact⟨by rw[seqIndex_of h0 h1,e],by omega,by omega,h1⟩
  ·rw[if_neg h1]at h; cases h
 ·rw[if_neg h0]at h
  by_cases h1:-(n:Int)≤i
  ·rw[if_pos h1]at h
   have e:(i+n).toNat=j:=Option.some.inj h
   exact⟨by rw[seqIndex_neg (by omega) h1,e],by omega,h1,by omega⟩
  ·rw[if_neg h1]at h; cases h
theorem atI_get{α:Type}{xs:List α}{i:Int}{v:α}(h:atI xs i=some v):∃ j,seqIndex? i xs.length=some j∧xs[j]?=some v∧j<xs.length∧-(xs.length:Int)≤i∧i<xs.length:=by
 unfold atI at h
 cases e:ixN xs.length i with
 |none=>rw[e]at h; cases h
 |some j=>
  rw[e]at h
  obtain⟨h1,h2,h3,h4⟩:=ixN_seq e
  exact⟨j,h1,h,h2,h3,h4⟩
def PlainIx(b:Expr):Prop:=∀ o i,subscripted b false o i=operate [o,i] (getItem o i)
def IxR(X:Cx)(r:R2):Prop:=
 ∀ (value slice:Expr) (pins:List (Addr×Obj)) (s:Shared) (σ:St) (H:Hp) (x y:V) (v u:Value) (Q:VK),Inv X pins σ H s→RelV x v→RelV y u→r x y H Q→
  subscripted slice false v u=operate [v,u] (getItem v u)→wpAny (model X.prog X.w) X.A (subscriptTail value slice v u) (EP X pins σ Q) X.xe s
def MtR(X:Cx)(id:String)(r:V→List V→Hp→VK→Prop):Prop:=
 ∀ (pins:List (Addr×Obj)) (s:Shared) (σ:St) (H:Hp) (x:V) (xs:List V) (v:Value) (us:List Value) (Q:VK),Inv X pins σ H s→RelV x v→Vals xs us→r x xs H Q→
  wpAny (model X.prog X.w) X.A (call (.builtin id) (v::us)) (EP X pins σ Q) X.xe s
section
variable {X:Cx}{a b:Expr}{ta tb:TE}{pos:Pos}
theorem IxR.or{r r':R2}(h:IxR X r)(h':IxR X r'):IxR X (fun x y H Q=>r x y H Q∨r' x y H Q):=by
 intro value slice pins s σ H x y v u Q I rx ry q hs
 rcases q with q|q
 ·exact h value slice pins s σ H x y v u Q I rx ry q hs
 ·exact h' value slice pins s σ H x y v u Q I rx ry q hs
theorem MtR.or{id:String}{r r':V→List V→Hp→VK→Prop}(h:MtR X id r)(h':MtR X id r'):MtR X id (fun x xs H Q=>r x xs H Q∨r' x xs H Q):=by
 intro pins s σ H x xs v us Q I rx rs q
 rcases q with q|q
 ·exact h pins s σ H x xs v us Q I rx rs q
 ·exact h' pins s σ H x xs v us Q I rx rs q
theorem pe_ix{r:R2}(hr:IxR X r)(ha:PE X a ta)(hb:PE X b tb)(hs:PlainIx b):PE X (.Subscript a b pos) (tOp r ta tb):=by
 intro pins s σ H Q I h
 exact Subscript_ (binT ha hb I h fun v u s2 x y H2 I2 rx ry q=>hr a b pins s2 σ H2 x y v u Q I2 rx ry q (hs _ _))
noncomputable def rIxL(K:PySem.W.Frag):R2:=fun x y H Q=>∃ p xs i v,x=.ref p∧y=.int i∧SqL K H p xs∧atI xs i=some v∧Q v H
noncomputable def rIxT(K:PySem.W.Frag):R2:=fun x y H Q=>∃ p xs i v,x=.ref p∧y=.int i∧SqT K H p xs∧atI xs i=some v∧Q v H
noncomputable def rIxS:R2:=fun x y H Q=>∃ z i c,x=.str z∧y=.int i∧z.length≤sizeLine∧atI z.cps.toList i=some c∧Q (.str ⟨#[c]⟩) H
theorem ix_list:IxR X (rIxL X.K):=by
 intro value slice pins s σ H x y v u Q I rx ry h hs
 obtain⟨p,xs,i,z,rfl,rfl,hq,he,q⟩:=h
 cases rx
 obtain⟨t,rfl⟩:=ry
 obtain⟨its,r,pl,hz⟩:=I.list hq
 obtain⟨j,h1,h2,h3,h4,h5⟩:=atI_get he
 obtain⟨w,ew,rw'⟩:=r.get h2
 have hl:=r.length
 have hn:=line63
 have fin:EP X pins σ Q w s:=⟨z,H,I,rw',q⟩
 by_cases h0:0≤i
 ·have hj:i.toNat=j:=by
   rw[seqIndex_of h0 h5]at h1
   exact Option.some.inj h1
  exact item_listR pl.isList h0 (by omega) (by rw[hj]; simpa using ew) fin hs
 ·have hj:(i+(its.toArray.size:Int)).toNat=j:=by
   rw[seqIndex_neg (by omega) h4]at h1
   rw[List.size_toArray,← hl]
   exact Option.some.inj h1
  exact subscriptTail_builtinR (x:=w) pl.isList.typeIs slot_list_getitem.lookup
   (wpAny_getItem_list_neg (Q:=fun r s'=>r=w∧EP X pins σ Q r s') pl.isList (by omega) (by rw[List.size_toArray]<;>omega) (by omega) (by rw[hj]; simpa using ew) ⟨rfl,fin⟩) hs
theorem ix_tup:IxR X (rIxT X.K):=by
 intro value slice pins s σ H x y v u Q I rx ry h hs
 obtain⟨p,xs,i,z,rfl,rfl,hq,he,q⟩:=h
 cases rx
 obtain⟨t,rfl⟩:=ry
 obtain⟨its,r,pl,hz⟩:=I.tuple hq
 obtain⟨j,h1,h2,h3,h4,h5⟩:=atI_get he
 obtain⟨w,ew,rw'⟩:=r.get h2
 have hl:=r.length
 have hn:=line63
 have fin:EP X pins σ Q w s:=⟨z,H,I,rw',q⟩
 exact subscriptTail_builtinR (x:=w) pl.typeIs slot_tuple_getitem.lookup
  (getItem_tuple (j:=j) (Q:=fun r s'=>r=w∧EP X pins σ Q r s') pl (by omega) (by omega) (by rw[List.size_toArray,← hl]; exact h1) (by simpa using ew) ⟨rfl,fin⟩) hs
theorem ix_str:IxR X rIxS:=by
 intro value slice pins s σ H x y v u Q I rx ry h hs
 obtain⟨z,i,c,rfl,rfl,hz,he,q⟩:=h
 obtain⟨t,rfl⟩:=rx
 obtain⟨t',rfl⟩:=ry
 obtain⟨j,h1,h2,h3,h4,h5⟩:=atI_get he
 have hl:z.cps.toList.length=z.length:=by simp[Str.length]
 rw[hl]at h1 h4 h5
 have hn:=line63
 exact tail_any (typeIs_str s z t) slot_str_getitem.lookup (getItem_str (c:=c) (by
  have e1:decide (i < -(2 ^ 63:Int))=false:=decide_eq_false (by omega)
  have e2:decide (i ≥ 2 ^ 63)=false:=decide_eq_false (by omega)
  rw[e1,e2,Bool.or_false]) (by rw[h1]; simpa using h2) ⟨.str ⟨#[c]⟩,H,I.tok _,⟨_,rfl⟩,q⟩) hs
theorem mapSeq_set(its:List Value)(n j:Nat)(u:Value):Obj.mapSeq (·.setIfInBounds j u) { cls:=.type "list",data:=.seq its.toArray n }={ cls:=.type "list",data:=.seq (its.set j u).toArray n }:=by
 simp[Obj.mapSeq]
theorem Inv.lst{pins:List (Addr×Obj)}{σ:St}{H:Hp}{s:Shared}{p:Addr}{xs:List V}(I:Inv X pins σ H s)(h:H p=some (.lst xs)):
  ∃ (its:List Value) (n:Nat),Vals xs its∧s.heap.get? p=some { cls:=.type "list",data:=.seq its.toArray n }∧xs.length≤sizeLine:=by
 obtain⟨z,its,n,r,e⟩:=I.hok p _ h
 exact⟨its,n,r,e,z⟩
theorem Inv.lstUpd{pins:List (Addr×Obj)}{σ:St}{H:Hp}{s:Shared}{p:Addr}{xs ys:List V}{its its':List Value}{n n':Nat}{f:Obj→Obj}(I:Inv X pins σ H s)(h:H p=some (.lst xs))
  (ho:s.heap.get? p=some { cls:=.type "list",data:=.seq its.toArray n }) (hf:f { cls:=.type "list",data:=.seq its.toArray n }={ cls:=.type "list",data:=.seq its'.toArray n' }) (r:Vals ys its') (hz:ys.length≤sizeLine) (t:Nat) :
  Inv X pins σ (upd H p (.lst ys)) { s with heap:=s.heap.update p f,toks:=t }:=by
 have e:(s.heap.update p f).get? p=some { cls:=.type "list",data:=.seq its'.toArray n' }:=by
  rw[Heap.get?_update_self f ho (by rw[hf]<;>rfl),hf]
 refine I.write (x:=p) (e:=p) (by rw[h]; trivial) (.inl rfl) (fun b u hb q=>(Heap.get?_update_other _ _ (Ne.symm hb)).trans q) ⟨_,e⟩ ?_
 exact⟨hz,its',n',r,e⟩
def rSetL:V→V→V→Hp→(Hp→Prop)→Prop:=fun o i v H Q=>∃ p xs k j,o=.ref p∧i=.int k∧H p=some (.lst xs)∧ixN xs.length k=some j∧Q (upd H p (.lst (xs.set j v)))
theorem set_list:PSet X rSetL:=by
 intro pins s σ H o i v ov iv u Q I ro ri rv h
 obtain⟨p,xs,k,j,rfl,rfl,hp,hj,q⟩:=h
 cases ro
 obtain⟨t,rfl⟩:=ri
 obtain⟨its,n,r,ho,hz⟩:=I.lst hp
 obtain⟨h1,h2,h3,h4⟩:=ixN_seq hj
 have hl:=r.length
 have hn:=line63
 have I':Inv X pins σ (upd H p (.lst (xs.set j v))) { s with heap:=s.heap.update p (Obj.mapSeq (·.setIfInBounds j u)) }:=
  I.lstUpd hp ho (mapSeq_set its n j u) (r.set rv j) (by rw[List.length_set]; exact hz) s.toks
 by_cases h0:0≤k
 ·have hk:k.toNat=j:=by
   rw[seqIndex_of h0 h4]at h1
   exact Option.some.inj h1
  exact PySem.W.ki_setAt ho h0 (by omega) (by rw[List.size_toArray,← hl]; exact h4) (by rw[hk]; exact⟨_,I',q⟩)
 ·have hk:(k+(its.toArray.size:Int)).toNat=j:=by
   rw[seqIndex_neg (by omega) h3]at h1
   rw[List.size_toArray,← hl]
   exact Option.some.inj h1
  exact PySem.W.ki_setBack ho (by omega) (by rw[List.size_toArray,← hl]; exact h3) (by omega) (by rw[hk]; exact⟨_,I',q⟩)
theorem slice_bounds(lo hi:Option Int)(n:Nat):(sliceBounds lo hi none n).1=((HT.sIx n 0 lo:Nat):Int)∧(sliceBounds lo hi none n).2.1=((HT.sIx n n hi:Nat):Int)∧(sliceBounds lo hi none n).2.2=1:=by
 refine⟨?_,?_,rfl⟩
 ·cases lo with
  |none=>simp[sliceBounds,HT.sIx]
  |some i=>
   simp only[sliceBounds,HT.sIx,Option.getD_none,show(1:Int) > 0 by decide,if_true]
   by_cases h:i<0
   ·simp only[h,if_true]<;>omega
   ·simp only[h,if_false]<;>omega
 ·cases hi with
  |none=>simp[sliceBounds,HT.sIx]
  |some i=>
   simp only[sliceBounds,HT.sIx,Option.getD_none,show(1:Int) > 0 by decide,if_true]
   by_cases h:i<0
   ·simp only[h,if_true]<;>omega
   ·simp only[h,if_false]<;>omega
theorem slicePick_cut(its:List Value)(lo hi:Option Int):slicePick its.toArray lo hi none=((its.drop (HT.sIx its.length 0 lo)).take (HT.sIx its.length its.length hi - HT.sIx its.length 0 lo)).toArray:=by
 obtain⟨h1,h2,h3⟩:=slice_bounds lo hi its.toArray.size
 unfold slicePick
 rw[h1,h2,h3]
 simp only[sliceRange_one,pick_run,List.size_toArray]<;>rfl
def rSlL(K:PySem.W.Frag):V→Option Int→Option Int→Hp→VK→Prop:=fun x lo hi H Q=>∃ a xs,x=.ref a∧SqL K H a xs∧∀ p,H p=none→Q (.ref p) (upd H p (.lst (cutV xs lo hi)))
theorem sl_list:SlR X (rSlL X.K):=by
 intro pins s σ H x v vl vu lo hi sl Q I rx hs pl pu h
 obtain⟨a,xs,rfl,hx,q⟩:=h
 cases rx
 obtain⟨its,r,ht,hz⟩:=I.list hx
 have hlen:=r.length
 refine⟨"list",_,slot_list_getitem.lookup,ht.isList.typeIs,?_⟩
 refine wpAny_getItem_list_slice ht.isList hs pl pu .none (by simp) ?_ (by rw[List.size_toArray]<;>omega)
 rw[slicePick_cut,← hlen]
 refine⟨.ref s.heap.objs.size,_,I.laid (t':=s.toks) (o:=.lst (cutV xs lo hi)) (fun b ob q=>Heap.get?_push_of_some _ q) (Nat.le_refl _) ?_,rfl,q _ (I.hok.fresh (Nat.le_refl _))⟩
 exact⟨Nat.le_trans (cutV_length xs lo hi) hz,_,0,(r.drop (HT.sIx xs.length 0 lo)).take (HT.sIx xs.length xs.length hi - HT.sIx xs.length 0 lo),Heap.get?_push_size _ rfl⟩
theorem call_len_seq:CallR X (.builtin "len") (fun xs H Q=>∃ p ys,xs=[.ref p]∧(SqL X.K H p ys∨SqT X.K H p ys)∧Q (.int ys.length) H):=by
 intro pins s σ H xs us Q I r h
 obtain⟨p,ys,rfl,hq,q⟩:=h
 obtain⟨u,rfl,rx⟩:=vals1 r
 cases rx
 have hn:=line63
 rcases hq with hq|hq
 ·obtain⟨its,r',pl,hz⟩:=I.list hq
  have hlen:=r'.length
  exact Calls.call_len_list pl.isList (by simp only[List.size_toArray]<;>omega) ⟨.int ys.length,H,I.tok _,⟨s.toks+1,by rw[List.size_toArray,hlen]⟩,q⟩
 ·obtain⟨its,r',pl,hz⟩:=I.tuple hq
  have hlen:=r'.length
  exact len_tuple pl (by simp only[List.size_toArray]<;>omega) ⟨.int ys.length,H,I.tok _,⟨s.toks+1,by rw[List.size_toArray,hlen]⟩,q⟩
theorem call_len_str:CallR X (.builtin "len") (fun xs H Q=>∃ z,xs=[.str z]∧z.length≤sizeLine∧Q (.int z.length) H):=by
 intro pins s σ H xs us Q I r h
 obtain⟨z,rfl,hz,q⟩:=h
 obtain⟨u,rfl,t,rfl⟩:=vals1 r
 have hn:=line63
 exact len_str (by omega) ⟨.int z.length,H,I.tok _,⟨_,rfl⟩,q⟩
theorem CallR.or{f:Value}{r r':List V→Hp→VK→Prop}(h:CallR X f r)(h':CallR X f r'):CallR X f (fun xs H Q=>r xs H Q∨r' xs H Q):=by
 intro pins s σ H xs us Q I rs q
 rcases q with q|q
 ·exact h pins s σ H xs us Q I rs q
 ·exact h' pins s σ H xs us Q I rs q
theorem call_list_of:CallR X (.type "list") (fun xs H Q=>∃ p ys,xs=[.ref p]∧(SqL X.K H p ys∨SqT X.K H p ys)∧∀ l,H l=none→Q (.ref l) (upd H l (.lst ys))):=by
 intro pins s σ H xs us Q I r h
 obtain⟨p,ys,rfl,hq,q⟩:=h
 obtain⟨u,rfl,rx⟩:=vals1 r
 cases rx
 have fin:∀ (its:List Value),Vals ys its→ys.length≤sizeLine→∀ (h':Heap) (c':Nat),(∀ b o',s.heap.get? b=some o'→h'.get? b=some o')→
   h'.get? s.heap.objs.size=some { cls:=.type "list",dict:=none,data:=.seq its.toArray c',slots:=#[] }→EP X pins σ Q (.ref s.heap.objs.size) { s with heap:=h' }:=fun its r' hz h' c' kp e=>
  ⟨.ref s.heap.objs.size,_,I.laid (t':=s.toks) kp (Nat.le_refl _) (show ObjOk X.prog X.w _ h' _ (.lst ys) from⟨hz,its,c',r',e⟩),rfl,q _ (I.hok.fresh (Nat.le_refl _))⟩
 rcases hq with hq|hq
 ·obtain⟨its,r',pl,hz⟩:=I.list hq
  have hlen:=r'.length
  obtain⟨o,ho,hc,n,hd⟩:=pl.isList
  exact call_list_seq p (.inl rfl) ho hc hd (fun h' c' kp e=>fin its r' hz h' c' kp e) (by simp only[List.size_toArray]<;>omega)
 ·obtain⟨its,r',pl,hz⟩:=I.tuple hq
  have hlen:=r'.length
  obtain⟨o,ho,hc,n,hd⟩:=pl
  exact call_list_seq p (.inr rfl) ho hc hd (fun h' c' kp e=>fin its r' hz h' c' kp e) (by simp only[List.size_toArray]<;>omega)
theorem call_tuple_of:CallR X (.type "tuple") (fun xs H Q=>∃ p ys,xs=[.ref p]∧((SqL X.K H p ys∧∀ l,H l=none→Q (.ref l) (upd H l (.tup ys)))∨(SqT X.K H p ys∧Q (.ref p) H))):=by
 intro pins s σ H xs us Q I r h
 obtain⟨p,ys,rfl,h⟩:=h
 obtain⟨u,rfl,rx⟩:=vals1 r
 cases rx
 rcases h with⟨hq,q⟩|⟨hq,q⟩
 ·obtain⟨its,r',pl,hz⟩:=I.list hq
  have hlen:=r'.length
  refine call_tuple_list pl.isList (fun h' kp=>?_) (by simp only[List.size_toArray]<;>omega)
  have I1:Inv X pins σ H { s with heap:=h' }:=I.kept (t':=s.toks) kp
  have I2:Inv X pins σ (upd H h'.objs.size (.tup ys)) { s with heap:=h'.push { cls:=.type "tuple",data:=.seq its.toArray } }:=
   I1.laid (t':=s.toks) (fun b o e=>Heap.get?_push_of_some _ e) (Nat.le_refl _) (show ObjOk X.prog X.w _ _ _ (.tup ys) from⟨hz,its,r',IsTup.new _ _⟩)
  exact⟨.ref h'.objs.size,_,I2,rfl,q _ (I1.hok.fresh (Nat.le_refl _))⟩
 ·obtain⟨its,r',pl,hz⟩:=I.tuple hq
  exact call_tuple_same pl ⟨.ref p,H,I,rfl,q⟩
def tyV(K:PySem.W.Frag)(T:String)(x:V)(H:Hp):Prop:=match x with
 |.str _=>T = "str"
 |.int _=>T = "int"
 |.ref p=>(T = "list"∧∃ xs,SqL K H p xs)∨(T = "tuple"∧∃ o,K.lookup p=some o∧o.cls=.type "tuple"∧o.dict=none)∨
   (T = "dict"∧((∃ kvs,H p=some (.dK kvs))∨∃ kvs,H p=some (.dT kvs)))∨(T = "set"∧∃ S n,H p=some (.set S n))
 |_=>False
theorem tyV_is{pins:List (Addr×Obj)}{σ:St}{H:Hp}{s:Shared}{T:String}{x:V}{v:Value}(I:Inv X pins σ H s)(r:RelV x v)(ty:tyV X.K T x H):
  s.TypeIs v T∧∀ a,v=.ref a→∃ ob,s.heap.get? a=some ob∧ob.dict=none:=by
 cases x with
 |str z=>
  obtain⟨t,rfl⟩:=r
  cases (show T = "str" from ty)
  exact⟨typeIs_str s z t,fun _ e=>nomatch e⟩
 |int i=>
  obtain⟨t,rfl⟩:=r
  cases (show T = "int" from ty)
  exact⟨typeIs_int s i t,fun _ e=>nomatch e⟩
 |ref p=>
  cases r
  rcases ty with⟨rfl,xs,hq⟩|⟨rfl,o,hk,hc,hd⟩|⟨rfl,hk⟩|⟨rfl,S,n,hk⟩
  ·obtain⟨its,_,pl,_⟩:=I.list hq
   refine⟨pl.isList.typeIs,fun a e=>?_⟩
   cases e
   obtain⟨o,n,e,c,hd,_⟩:=pl
   exact⟨o,e,hd⟩
  ·refine⟨⟨o,I.kIn p o hk,hc⟩,fun a e=>?_⟩
   cases e
   exact⟨o,I.kIn _ o hk,hd⟩
  ·have z:∃ o,s.heap.get? p=some o∧o.ExactDict:=by
    rcases hk with⟨kvs,hk⟩|⟨kvs,hk⟩
    ·obtain⟨_,_,_,_,o,_,_,e,ex,_⟩:=I.hok p _ hk
     exact⟨o,e,ex⟩
    ·obtain⟨_,_,_,_,o,_,_,e,ex,_⟩:=I.hok p _ hk
     exact⟨o,e,ex⟩
   obtain⟨o,e,ex⟩:=z
   refine⟨⟨o,e,ex.1⟩,fun a e2=>?_⟩
   cases e2
   exact⟨o,e,ex.2.1⟩
  ·obtain⟨o,_,_,_,e,ex,_⟩:=I.hok p _ hk
   refine⟨⟨o,e,ex.1⟩,fun a e2=>?_⟩
   cases e2
   exact⟨o,e,ex.2.1⟩
 |_=>exact False.elim ty
noncomputable def tBM(K:PySem.W.Frag)(T:String)(r:V→List V→Hp→VK→Prop)(to:TE)(t:TA):TE:=fun σ H Q=>to σ H fun x H1=>tyV K T x H1∧t σ H1 fun xs H2=>r x xs H2 Q
variable {o e:Expr}{es:List Expr}{to:TE}{t:TA}{name:Str}{apos cpos:Pos}{T id:String}{r:V→List V→Hp→VK→Prop}
theorem pe_bm(pa:PlainAttrs T)(slot:Slot T name id)(hty:typeOf (.builtin id)=pure (.type "method_descriptor"))(hm:MtR X id r)(ho:PE X o to)(ha:PA X (e::es) t)
  (hbase:attributeBase o name X.env (eval o X.env)=eval o X.env:=by rfl)
  (hfew:((backTo cpos (starEach (e::es) X.env)).all (fun x=>!x.1)&&(backToKw cpos (keywordEach [] X.env)).all (fun x=>x.1.isSome)
   && decide ((e::es).length+([]:List Keyword).length+(if ([]:List Keyword).isEmpty then 0 else 1)<30))=true:=by rfl)
  (hline:(apos.endLine==cpos.line)=true:=by rfl) (hs:starEach (e::es) X.env=(false,eval e X.env)::starEach es X.env:=by rfl) (hplain:(backTo cpos (starEach es X.env)).any (·.1)=false:=by rfl) :
  PE X (.Call (.Attribute o name apos) (e::es) [] cpos) (tBM X.K T r to t):=by
 intro pins s σ H Q I h
 refine wpAny_Call_method_late hbase hfew hline rfl (thn (ho pins s σ H _ I h) fun v s1 ⟨x,H1,I1,r1,ty,q1⟩=>?_)
 obtain⟨h1,h2⟩:=tyV_is I1 r1 ty
 refine⟨T,id,pa,slot,hty,h1,h2,?_⟩
 have hA:=ha cpos pins s1 σ H1 _ I1 q1
 rw[hs]at hA ⊢
 refine Calls.callWith_builtin (by show(false||(backTo cpos (starEach es X.env)).any (·.1))=false; rw[hplain]<;>rfl) (Calls.evalArgs_plain ?_)
 exact thn hA fun us s2 ⟨vs,H2,I2,r2,q2⟩=>hm pins s2 σ H2 x vs v us Q I2 r1 r2 q2
end
end L2
namespace L2
open PySem PySem.Spec PyProof.Rows
def MtM(X:Cx)(id:String)(r:V→List V→Hp→VK→Prop):Prop:=
 ∀ (pins:List (Addr×Obj)) (s:Shared) (σ:St) (H:Hp) (x:V) (xs:List V) (v:Value) (us:List Value) (Q:VK),Inv X pins σ H s→RelV x v→Vals xs us→r x xs H Q→
  wpAny (model X.prog X.w) X.A (call (.builtin id) (v::us)) (EP X pins σ Q) X.xe s
theorem Vals.one:∀ {x:V}{us:List Value},Vals [x] us→∃ u,us=[u]∧RelV x u
 |_,_,.cons r .nil=>⟨_,rfl,r⟩
theorem Vals.two:∀ {x y:V}{us:List Value},Vals [x,y] us→∃ u v,us=[u,v]∧RelV x u∧RelV y v
 |_,_,_,.cons r (.cons q .nil)=>⟨_,_,rfl,r,q⟩
theorem Vals.zero:∀ {us:List Value},Vals [] us→us=[]
 |_,.nil=>rfl
theorem Vals.reverse{xs:List V}{us:List Value}(h:Vals xs us):Vals xs.reverse us.reverse:=by
 induction h with
 |nil=>exact .nil
 |cons r t ih=>rw[List.reverse_cons,List.reverse_cons]; exact Vals.append ih (.cons r .nil)
theorem Vals.rep{xs:List V}{us:List Value}(h:Vals xs us):∀ k:Nat,Vals (List.replicate k xs).flatten (List.replicate k us).flatten
 |0=>.nil
 |k+1=>by
  rw[List.replicate_succ,List.replicate_succ,List.flatten_cons,List.flatten_cons]
  exact Vals.append h (Vals.rep h k)
theorem foldl_rep(its:List Value):∀ (k:Nat) (acc:List Value),
  List.foldl (fun x1 x2=>x1++x2) acc.toArray (List.replicate k its.toArray)=(acc++(List.replicate k its).flatten).toArray
 |0,acc=>by simp
 |k+1,acc=>by
  have e:acc.toArray++its.toArray=(acc++its).toArray:=by simp
  have e2:(acc++its)++(List.replicate k its).flatten=acc++(List.replicate (k+1) its).flatten:=by
   rw[List.replicate_succ,List.flatten_cons,List.append_assoc]
  rw[← e2,← foldl_rep its k (acc++its),← e,List.replicate_succ,List.foldl_cons]
section
variable {X:Cx}{pins:List (Addr×Obj)}{σ:St}{H:Hp}{s:Shared}{l b:Addr}{xs ys zs:List V}
theorem Inv.lset{its its':List Value}{n:Nat}{f:Array Value→Array Value}{t':Nat}(I:Inv X pins σ H s)(hH:H l=some (.lst xs))
  (e:s.heap.get? l=some { cls:=.type "list",data:=.seq its.toArray n }) (hf:f its.toArray=its'.toArray) (hv:Vals ys its') (hz:ys.length≤sizeLine) :
  Inv X pins σ (upd H l (.lst ys)) { s with heap:=s.heap.update l (Obj.mapSeq f),toks:=t' }:=by
 have q:=PySem.IsL.update e f
 rw[hf]at q
 refine I.write (x:=l) (e:=l) (by rw[hH]; exact trivial) (.inl rfl) (fun b' u hb hu=>(Heap.get?_update_other s.heap (Obj.mapSeq f) (Ne.symm hb)).trans hu) ⟨_,q⟩ ?_
 exact⟨hz,its',_,hv,q⟩
theorem Inv.lnew{its:List Value}{t':Nat}(I:Inv X pins σ H s)(hv:Vals ys its)(hz:ys.length≤sizeLine):
  Inv X pins σ (upd H s.heap.objs.size (.lst ys)) { s with heap:=s.heap.push { cls:=.type "list",data:=.seq its.toArray },toks:=t' }:=
 I.laid (fun _ _ q=>Heap.get?_push_of_some _ q) (Nat.le_refl _) ⟨hz,its,0,hv,Heap.get?_push_size _ rfl⟩
theorem Inv.fresh(I:Inv X pins σ H s):H s.heap.objs.size=none:=I.hok.fresh (Nat.le_refl _)
theorem Inv.lstM(I:Inv X pins σ H s)(hH:H l=some (.lst xs)):xs.length≤sizeLine∧∃ (its:List Value) (n:Nat),Vals xs its∧xs.length=its.length∧s.heap.get? l=some { cls:=.type "list",data:=.seq its.toArray n }:=by
 obtain⟨z,its,n,r,e⟩:=I.hok l _ hH
 exact⟨z,its,n,r,r.length,e⟩
theorem notLongL{n:Nat}(h:n≤sizeLine):Builtin.List.listTooLong n=false:=by
 unfold Builtin.List.listTooLong
 exact decide_eq_false (by omega)
end
section
variable {X:Cx}
def rAppend:V→List V→Hp→VK→Prop:=fun x vs H Q=>∃ l xs y,x=.ref l∧vs=[y]∧H l=some (.lst xs)∧xs.length<sizeLine∧Q .non (upd H l (.lst (xs++[y])))
theorem mt_append:MtM X "list.append" rAppend:=by
 intro pins s σ H x vs v us Q I rx rv h
 obtain⟨l,xs,y,rfl,rfl,hH,hz,q⟩:=h
 cases rx
 obtain⟨u,rfl,ru⟩:=rv.one
 obtain⟨z,its,n,r,hl,e⟩:=I.lstM hH
 refine call_meets F.slot_list_append ⟨_,e,rfl⟩ F.entry_list_append (F.args_list_append_2 _ _) (PySem.list_append l its.toArray n u (by rw[List.size_toArray]; omega)) ⟨e,?_⟩
 refine⟨.non,_,I.lset (its':=its++[u]) hH e (by simp) (r.append (.cons ru .nil)) ?_,rfl,q⟩
 rw[List.length_append,List.length_singleton]
 omega
noncomputable def rRep:R2:=fun x y H Q=>∃ l k xs,x=.ref l∧y=.int k∧H l=some (.lst xs)∧-(2 ^ 63)≤k∧k<2 ^ 63∧xs.length*k.toNat≤sizeLine∧
 ∀ p,H p=none→Q (.ref p) (upd H p (.lst (List.replicate k.toNat xs).flatten))
theorem len_rep{α:Type}(xs:List α)(k:Nat):(List.replicate k xs).flatten.length=k*xs.length:=by
 induction k with
 |zero=>simp
 |succ k ih=>rw[List.replicate_succ,List.flatten_cons,List.length_append,ih,Nat.succ_mul,Nat.add_comm]
theorem op_rep:OpR X (binaryOp .Mult) rRep:=by
 intro pins s σ H x y v u Q I rx ry h
 obtain⟨l,k,xs,rfl,rfl,hH,h1,h2,hz,q⟩:=h
 cases rx
 obtain⟨t,rfl⟩:=ry
 obtain⟨z,its,n,r,hl,e⟩:=I.lstM hH
 have hlen:its.toArray.size*k.toNat≤sizeLine:=by rw[List.size_toArray,← hl]; exact hz
 have hcap:¬ its.toArray.size*k.toNat > (2 ^ 63 - 1) / 8:=by
  have:(sizeLine:Nat)≤(2 ^ 63 - 1) / 8:=by decide
  omega
 have hfit:¬ (!Builtin.List.listFitsIndex k)=true:=by
  rw[fitsIndex_both h1 h2]
  exact Bool.false_ne_true
 have hlong:¬ Builtin.List.listTooLong (its.toArray.size*k.toNat)=true:=by
  rw[notLongL hlen]
  exact Bool.false_ne_true
 have hnew:List.foldl (fun x1 x2=>x1++x2) #[] (List.replicate (if its.toArray.isEmpty=true then 0 else k.toNat) its.toArray)=(List.replicate k.toNat its).flatten.toArray:=by
  have f0:∀ m:Nat,List.foldl (fun x1 x2=>x1++x2) #[] (List.replicate m its.toArray)=(List.replicate m its).flatten.toArray:=fun m=>by
   have:=foldl_rep its m []
   rw[List.nil_append]at this
   exact this
  rw[f0]
  cases its with
  |nil=>simp
  |cons a r'=>rw[if_neg (by simp)]
 refine wpAny_binaryOp_repeat_ref (T:="list") (U:="int") (by decide) ⟨_,e,rfl⟩ (fun s'=>typeIs_int s' k t) noFill_list_mul F.fills_int_mul F.slot_int_rmul repeat_list F.slot_int_index.lookup
  (call_meets F.slot_int_rmul (typeIs_int s k t) F.entry_int_rmul (F.args_int_rmul_2 _ _) (int___rmul___int_list k t l its.toArray n)
   ⟨e,rfl,⟨_,e,rfl⟩,call_meets F.slot_list_mul ⟨_,e,rfl⟩ F.entry_list_mul (F.args_list_mul_2 _ _) (AutoListH.list___mul___list_int_3 l its.toArray n k t hfit hcap hlong) ⟨e,?_⟩⟩)
 rw[hnew]
 exact⟨.ref _,_,I.lnew (t':=s.toks) (r.rep k.toNat) (by rw[len_rep,Nat.mul_comm]; exact hz),rfl,q _ I.fresh⟩
end
section
variable {prog:Program}{w:World}{A:Around}{E:Value→Shared→Prop}{s:Shared}
end
section
variable {X:Cx}
end
end L2
namespace Att
open PySem PySem.W PySem.Calls PyProof.Rows
theorem ints_of_wellAll{P:Params}{h:Heap}:∀ (ns:List Int) (vs:List Value),WellAll P h vs (ns.map WData.int)→IntsAre vs ns:=by
 intro ns
 induction ns with
 |nil=>
  intro vs w
  rw[List.map_nil]at w
  cases w
  exact .nil
 |cons n ns ih=>
  intro vs w
  rw[List.map_cons]at w
  cases w with
  |cons a b=>
   cases a
   exact .cons _ _ (ih _ b)
theorem script_of{l:OpenLaw}{n:Nat}(hn:l.most=some n){P:Params}{h:Heap}{args:List WData}{vals:List Value}
  (hpre:l.row.toRowW.claim.pre args=true) (hwl:WellAll P h vals args) :
  ∃ a vs ns,vals=[Value.ref a]∧args=[WData.list (ns.map WData.int)]∧h.get? a=some { cls:=.type "list",data:=.seq vs.toArray }∧IntsAre vs ns∧ns.length≤n:=by
 have hsh:WShape.hasAll [] args [.list .int]=true:=(pre_splitW hpre).1
 have hc:l.pre.holds [] { args:=args }=true:=(pre_splitW hpre).2
 obtain⟨d,r,rfl,h1,h2⟩:=hasAllW_cons hsh
 obtain rfl:=hasAllW_nil h2
 obtain⟨xs,rfl,h3⟩:=hasW_list h1
 obtain⟨ns,rfl⟩:=items_int h3
 have hlen:ns.length≤n:=by
  unfold OpenLaw.pre at hc
  have h4:(WTm.not (.lt (.lit (.int (n:Int))) (.len (.arg 0)))).holds [] { args:=[.list (ns.map .int)] }=true:=by
   have h4:=(holds_andW hc).1
   rw[hn]at h4
   exact h4
  have h5:=condW_of h4 (w_not (w_lt w_lit (w_len_list (w_arg rfl))))
  rw[List.length_map]at h5
  refine Nat.le_of_not_lt fun q=>?_
  have q':(n:Int)<((ns.length:Nat):Int):=by omega
  first
   |(rw[decide_eq_true q']at h5; exact absurd h5 (by decide))
   |(simp at h5; omega)
 cases hwl with
 |cons w1 w2=>
  cases w2
  cases w1 with
  |list ho hall=>exact⟨_,_,ns,rfl,rfl,ho,ints_of_wellAll ns _ hall,hlen⟩
theorem post_true(l:OpenLaw)(args:List WData):l.row.toRowW.claim.post args (.bool true) args=true:=
 postW_of (r:=l.row.toRowW) (X:=(true==true))
  (show WShape.has [] (.bool true) .bool=true by first|rfl|decide|simp[WShape.has,WShape.arms,WShape.armsAll])
  (show(WTm.eq .res (.lit (.bool true))).value [] { args:=args,res:=some (.bool true),after:=args }=some (.bool (true==true)) from w_eq_bool (w_res rfl) w_lit) rfl
theorem attach_call{l:OpenLaw}{n:Nat}{q:Program}{loose:List Str}{XP:(Str→Option Value)→Heap→Prop}{YP:World→Heap→Prop}{d:DefRec}
  (hn:l.most=some n) (hdf:d.params.defaults=[])
  (call:∀ (w:World) (s₀ s₁:Shared) (mg mb:Str→Option Value) (fa:Addr) (o:Obj) (pm cd doc:Value) (a:Addr) (vs:List Value) (ns:List Int),
   Ground q loose [] XP w s₀ mg mb s₁.heap→YP w s₁.heap→
   s₁.heap.get? fa=some o→o.data=.func (docDef d.name d.params d.body d.scope pm cd doc)→s₁.heap.CodeRec cd d.name→mg d.name=some (.ref fa)→
   s₁.heap.get? a=some { cls:=.type "list",data:=.seq vs.toArray }→IntsAre vs ns→ns.length≤n→s₁.gens=#[]→
   codeAny (model l.prog w) callerA (.call (.ref fa) ⟨[.ref a],[]⟩) (fun r s'=>r=.ok (.ret (.bool true))∧OldK s₁.heap s'.heap∧s'.os=s₁.os∧AllBare s'.gens) s₁) :
  WalkO q loose XP YP l.row.toRowW d [] (fun f vs=>PySem.call f vs):=by
 intro w s₀ s₁ mg mb G Y fa o pm cd doc dV kV ho hd hcd hD hmg hg args vals as hpre hlay hrd hwl hlo
 obtain rfl:dV=.none:=Dflts.none hD hdf
 obtain rfl:kV=.none:=Dflts.noKw hD
 obtain⟨a,vs,ns,rfl,rfl,hobj,hints,hlen⟩:=script_of hn hpre hwl
 refine enter_call (codeAny_mono (call w s₀ s₁ mg mb fa o pm cd doc a vs ns G Y ho (fd_plain hd) hcd hmg hobj hints hlen hg) fun r s' hq=>?_)
 obtain⟨rfl,h2,h3,h4⟩:=hq
 exact⟨.inl ⟨.bool true,.bool true,[],rfl,fun _=>rfl,.bool true,post_true l _,fun _=>⟨List.Pairwise.nil,fun _ hm=>(nomatch hm)⟩⟩,h2,h3,h4⟩
section
variable {prog:Program}{w:World}{A:Around}{E:Value→Shared→Prop}{s:Shared}{K:Frag}
end
end Att
namespace L2
open PySem PySem.Spec PyProof.Rows
theorem vals_ints:∀ {vs:List Value}{ns:List Int},IntsAre vs ns→Vals (ns.map V.int) vs
 |_,_,.nil=>.nil
 |_,_,.cons n t h=>.cons ⟨t,rfl⟩ (vals_ints h)
def Only(H:Hp):Prop:=∀ b,H b=none∨∃ o xs,H b=some (.frz o (.lst xs))
theorem law_call{P:Program}{w:World}{K:PySem.W.Frag}{mg mb:Str→Option Value}{CX:CXT}{k:Nat}{fa a:Addr}{fd:FuncData}{x:Str}{sp:Sp}{s₁:Shared}{vs:List Value}{ns:List Int}
  (KX:K.In s₁.heap) (hns:s₁.heap.Ns mainGlobals mg) (hb:s₁.heap.Ns builtinsNs mb) (hbb:∀ x:Str,x ≠ "__name__"→mb x=bootBuiltins x) (hlim:s₁.heap.NoLimit) (hg:s₁.gens=#[])
  (ha:s₁.heap.get? a=some { cls:=.type "list",data:=.seq vs.toArray }) (hi:IntsAre vs ns) (hl:ns.length≤sizeLine) (hr:Room k callerA)
  (F:∀ base:Heap,K.In base→base.Ns mainGlobals mg→FnOk P w K mg base CX k fa fd [x] sp) (hbind:∀ (s:Shared) (u:Value),BindsTo s fd ⟨[u],[]⟩ [(x,u)])
  (hsp:∀ H:Hp,Only H→SqL K H a (ns.map V.int)→sp [.ref a] H (fun v _=>v=.bl true) fun _ _ _=>False)
  (hCX:∀ H e s',CX [] H s₁ (fun _ _ _=>False) e s'→False) :
  codeAny (model P w) callerA (.call (.ref fa) ⟨[.ref a],[]⟩) (fun r s'=>r=.ok (.ret (.bool true))∧OldK s₁.heap s'.heap∧s'.os=s₁.os∧AllBare s'.gens) s₁:=by
 have rv:=vals_ints hi
 have lenV:=hi.length
 have core:∀ H:Hp,Only H→SqL K H a (ns.map V.int)→HOk P w H s₁.heap→(∀ b,H b≠none→b=a)→(H a≠none→K.lookup a=none)→
   codeAny (model P w) callerA (.call (.ref fa) ⟨[.ref a],[]⟩) (fun r s'=>r=.ok (.ret (.bool true))∧OldK s₁.heap s'.heap∧s'.os=s₁.os∧AllBare s'.gens) s₁:=by
  intro H hO hS hok hA hK
  have base_of:∀ {b:Addr}{o:Obj},s₁.heap.get? b=some o→H b=none→(hidT s₁.heap H).get? b=some o:=fun e n=>hidT_get e n
  have noA:∀ {b:Addr}{o:Obj}{es:Array DictEntry}{ep:Nat},s₁.heap.get? b=some o→o.data=.dict es ep→H b=none:=fun {b o es ep} e d=>by
   cases q:H b with
   |none=>rfl
   |some u=>
    have e':b=a:=hA b (by rw[q]; simp)
    subst e'
    rw[ha]at e; cases e
    have d':Data.seq vs.toArray _=Data.dict es ep:=d
    cases d'
  have nsK:∀ {b:Addr}{m:Str→Option Value},s₁.heap.Ns b m→(hidT s₁.heap H).Ns b m:=fun {b m} ⟨o,es,ep,e,d,r⟩=>⟨o,es,ep,base_of e (noA e d),d,r⟩
  have hKb:K.In (hidT s₁.heap H):=fun b o e=>base_of (KX b o e) (by
   cases q:H b with
   |none=>rfl
   |some u=>
    have e':b=a:=hA b (by rw[q]; simp)
    subst e'
    rw[hK (by rw[q]; simp)]at e; cases e)
  have hM:Mod K mg (hidT s₁.heap H):=⟨hKb,nsK hns,⟨mb,nsK hb,hbb⟩,let ⟨mc,h1,h2⟩:=hlim; ⟨mc,nsK h1,h2⟩⟩
  have e0:Env0 P w K mg (hidT s₁.heap H) callerA [] s₁ H:=⟨rfl,hM,fun b o e=>of_hidT e,Nat.le_of_eq (hidT_size _ _),trivial,fun b hb=>absurd (show b∈([]:List Addr) from hb) (by simp),hok,.of_eq hg⟩
  refine codeAny_mono ((F _ hKb (nsK hns)).run callerA [] s₁ H ⟨[.ref a],[]⟩ [.ref a] [.ref a] _ _ hr e0 (hbind s₁ (.ref a)) (.cons rfl .nil) (hsp H hO hS)) fun r s' h=>?_
  cases r with
  |error e=>exact(hCX H e s' h).elim
  |ok fl=>
   cases fl with
   |next=>exact False.elim h
   |brk=>exact False.elim h
   |cont=>exact False.elim h
   |ret u=>
    obtain⟨v,H',os,bare,un,hok',r',q⟩:=h
    have q':v=.bl true:=q
    subst q'
    obtain rfl:u=Value.bool true:=r'
    refine⟨rfl,OldK.of_keep fun b o e=>?_,os,bare⟩
    cases q:H b with
    |none=>exact un.keep b o e q (by intro z; exact absurd (show b∈([]:List Addr) from z) (by simp)) (by simp)
    |some u=>
     rcases hO b with z|⟨ob,xs,z⟩
     ·rw[q]at z; cases z
     ·have z2:=un.frzs b ob _ z
      obtain⟨e1,_⟩:=hok b _ z
      obtain⟨e2,_⟩:=hok' b _ z2
      rw[e]at e1; cases e1
      exact e2
 cases hk:K.lookup a with
 |some o=>
  have e:=KX a o hk
  rw[ha]at e
  cases e
  refine core (fun _=>none) (fun _=>.inl rfl) (.inr ⟨_,vs.toArray,_,hk,rfl,rfl,rfl,by rw[List.size_toArray,lenV]; exact hl,by simpa using rv⟩) (fun b u z=>by have z':(none:Option HO)=some u:=z; cases z') (fun b z=>absurd rfl z) fun z=>absurd rfl z
 |none=>
  refine core (fun b=>if b=a then some (.frz { cls:=.type "list",data:=.seq vs.toArray } (.lst (ns.map V.int))) else none) (fun b=>?_) (.inl (.inr ⟨{ cls:=.type "list",data:=.seq vs.toArray },if_pos rfl⟩)) (fun b u z=>?_) (fun b z=>?_) fun _=>hk
  ·by_cases hb:b=a
   ·exact .inr ⟨_,_,if_pos hb⟩
   ·exact .inl (if_neg hb)
  ·by_cases hb:b=a
   ·have z':=(if_pos hb).symm.trans z
    cases z'
    subst hb
    exact⟨ha,by rw[List.length_map]; exact hl,vs,_,rv,ha⟩
   ·have z':=(if_neg hb).symm.trans z
    cases z'
  ·by_cases hb:b=a
   ·exact hb
   ·exact absurd (if_neg hb) z
end L2
namespace L2
open PySem PySem.Spec PyProof.Rows
theorem walk_of{l:PySem.W.OpenLaw}{n k:Nat}{q:Program}{loose:List Str}{XP:(Str→Option Value)→Heap→Prop}{YP:World→Heap→Prop}{d:DefRec}{K:Params→PySem.W.Frag}{CX:World→CXT}{sp:World→Sp}{x:Str}
  (hn:l.most=some n) (hn2:n≤sizeLine) (hdf:d.params.defaults=[]) (hr:Room k callerA)
  (hY:∀ (w:World) (h:Heap),YP w h→(K w.params).In h)
  (F:∀ (w:World) (mg:Str→Option Value) (fa:Addr) (h:Heap),(K w.params).In h→h.Ns mainGlobals mg→mg d.name=some (.ref fa)→
   ∃ fd:FuncData,(∀ (s:Shared) (u:Value),BindsTo s fd ⟨[u],[]⟩ [(x,u)])∧
    ∀ base:Heap,(K w.params).In base→base.Ns mainGlobals mg→FnOk l.prog w (K w.params) mg base (CX w) k fa fd [x] (sp w))
  (hsp:∀ (w:World) (H:Hp) (a:Addr) (ns:List Int),ns.length≤n→Only H→SqL (K w.params) H a (ns.map V.int)→sp w [.ref a] H (fun v _=>v=.bl true) fun _ _ _=>False)
  (hCX:∀ (w:World) (H:Hp) (s:Shared) (e:Value) (s':Shared),CX w [] H s (fun _ _ _=>False) e s'→False) :
  PySem.W.WalkO q loose XP YP l.row.toRowW d [] (fun f vs=>PySem.call f vs):=by
 refine Att.attach_call hn hdf fun w s₀ s₁ mg mb fa o pm cd doc a vs ns G Y ho hd hcd hmg hobj hints hlen hg=>?_
 have KX:=hY w _ Y
 obtain⟨fd,hb,hF⟩:=F w mg fa _ KX G.T.g hmg
 exact law_call KX G.T.g G.T.b G.T.builtins G.T.nolimit hg hobj hints (Nat.le_trans hlen hn2) hr hF hb (fun H hO hS=>hsp w H a ns hlen hO hS) fun H e s'=>hCX w H s₁ e s'
end L2
namespace L2
open PySem PySem.Spec PyProof.Rows
noncomputable def defArgs(s:Stmt):Arguments:=match s with
 |.FunctionDef _ a _ _ _ _ _ _ _ _=>a
 |_=>{ posonlyargs:=[],args:=[],vararg:=none,kwonlyargs:=[],kw_defaults:=[],kwarg:=none,defaults:=[] }
noncomputable def defBody(s:Stmt):List Stmt:=match s with
 |.FunctionDef _ _ b _ _ _ _ _ _ _=>b
 |_=>[]
noncomputable def defScope(s:Stmt):Scope:=match s with
 |.FunctionDef _ _ _ _ _ _ sc _ _ _=>sc
 |_=>{ kind:=.function,names:=[],isGenerator:=false,isCoroutine:=false }
noncomputable abbrev CX0:CXT:=fun _ _ _ _ _ _=>False
noncomputable abbrev E0:XK:=fun _ _ _=>False
theorem pass0{X:Cx}:Passes CX0 X E0:=fun _ _ _ _ _ _ _ h=>h.elim
structure Fun (K:PySem.W.Frag) (x qual:Str) (st:Stmt) (f:Addr) (fd:FuncData):Prop where
 ex:∃ (oc:Value) (od:Option Addr) (kV doc pm:Value) (an:Option Addr) (cdv ct:Value) (osl:Array (Option Value)),
  fd=PySem.W.fnOf x qual (defArgs st) (defBody st) (defScope st) .none kV doc pm an cdv ct∧K.lookup f=some ⟨oc,od,.func fd,osl⟩∧PySem.W.codeIn K cdv qual=true
 kp:PySem.W.keepIn K (.ref f)=true
section
variable {P:Program}{w:World}{K:PySem.W.Frag}{mg:Str→Option Value}{base:Heap}
theorem Fun.ok{x qual:Str}{st:Stmt}{f:Addr}{fd:FuncData}{N ps:List Str}{k:Nat}{sp:Sp}(F:Fun K x qual st f fd)(S:FnScope N ps (defScope st))(len:∀ vs H Q E,sp vs H Q E→vs.length=ps.length)
  (hbody:∀ (cdv:Value) (A:Around) (outer:List Env) (s:Shared) (H:Hp) (vs:List V) (Q:VK) (E:XK),Room k (A.deeper (envOfC qual (defScope st) s.heap.objs.size f cdv))→sp vs H Q E→
   ∃ t,PSs (cxOf CX0 P w K mg base N qual (defScope st) f cdv A outer s H E).nox (defBody st) t∧t { nx:=fun _ H'=>Q .non H',rt:=Q } (start N vs) H):FnOk P w K mg base CX0 (k+1) f fd ps sp:=by
 obtain⟨oc,od,kV,doc,pm,an,cdv,ct,osl,rfl,lk,hcd⟩:=F.ex
 refine fn_of lk hcd S len fun A outer s H vs Q E hr hsp=>?_
 obtain⟨t,h,q⟩:=hbody cdv A outer s H vs Q E hr hsp
 exact⟨t,h.nox,q⟩
theorem Fun.binds{x qual:Str}{st:Stmt}{f:Addr}{fd:FuncData}{ps:List Str}(F:Fun K x qual st f fd)
  (h:∀ (kV doc pm:Value) (an:Option Addr) (cdv ct:Value) (us:List Value),us.length=ps.length→bindArgs (PySem.W.fnOf x qual (defArgs st) (defBody st) (defScope st) .none kV doc pm an cdv ct) ⟨us,[]⟩=pure (ps.zip us)):Binds K fd ps []:=by
 obtain⟨oc,od,kV,doc,pm,an,cdv,ct,osl,rfl,lk,hcd⟩:=F.ex
 exact .all (h kV doc pm an cdv ct)
theorem fun_mk{x qual:Str}{st:Stmt}{f:Addr}{oc:Value}{od an:Option Addr}{osl:Array (Option Value)}{kV doc pm cdv ct:Value}(l:K.lookup f=some ⟨oc,od,.func (PySem.W.fnOf x qual (defArgs st) (defBody st) (defScope st) .none kV doc pm an cdv ct),osl⟩)
  (c:PySem.W.codeIn K cdv qual=true) (k:PySem.W.keepIn K (.ref f)=true):Fun K x qual st f (PySem.W.fnOf x qual (defArgs st) (defBody st) (defScope st) .none kV doc pm an cdv ct):=⟨⟨oc,od,kV,doc,pm,an,cdv,ct,osl,rfl,l,c⟩,k⟩
end
theorem small1000{n:Nat}(h:n≤1000):n<sizeLine:=Nat.lt_of_le_of_lt h (by decide)
section
variable {X:Cx}
theorem pv(i:Nat){x:Str}{pos:Pos}(hN:X.N[i]?=some x)(hv:Vis X.env.scope x)(hd:(x==("__debug__" : Str))=false:=by decide)
  (hcd:(x==("__classdict__" : Str))=false:=by decide):PE X (.Name x pos) (tVar i):=pe_var hN hv hd hcd
end
def Same(H H':Hp):Prop:=∀ b o,H b=some o→H' b=some o
theorem Same.refl(H:Hp):Same H H:=fun _ _ h=>h
theorem Same.trans{H H1 H2:Hp}(a:Same H H1)(b:Same H1 H2):Same H H2:=fun c o h=>b c o (a c o h)
theorem Same.free{H H':Hp}(e:Same H H'){l:Addr}(h:H' l=Option.none):H l=Option.none:=by
 cases q:H l with
 |none=>rfl
 |some o=>
  rw[e l o q]at h
  cases h
theorem Same.seq{K:PySem.W.Frag}{H H':Hp}{a:Addr}{xs:List V}(e:Same H H')(h:SqL K H a xs):SqL K H' a xs:=by
 rcases h with (h|⟨o,h⟩)|h
 ·exact .inl (.inl (e _ _ h))
 ·exact .inl (.inr ⟨o,e _ _ h⟩)
 ·exact .inr h
end L2
end
section
namespace L2
open PySem PySem.Spec PyProof.Rows
section
variable {κ:Type} [DecidableEq κ]
noncomputable def valV(kvs:List (κ×V))(k:κ):Option V:=(kvs.find? fun kv=>decide (kv.1=k)).map (·.2)
noncomputable def putK(kvs:List (κ×V))(k:κ)(v:V):List (κ×V):=
 if (kvs.any fun kv=>decide (kv.1=k))=true then kvs.map (fun kv=>if kv.1=k then(kv.1,v) else kv) else kvs++[(k,v)]
noncomputable def dropK(kvs:List (κ×V))(k:κ):List (κ×V):=kvs.filter fun kv=>decide (kv.1≠k)
theorem valV_pos{p:κ×V}{r:List (κ×V)}{k:κ}(e:p.1=k):valV (p::r) k=some p.2:=by simp[valV,List.find?_cons,e]
theorem valV_neg{p:κ×V}{r:List (κ×V)}{k:κ}(e:¬ p.1=k):valV (p::r) k=valV r k:=by simp[valV,List.find?_cons,e]
theorem valV_any(k:κ):∀ kvs:List (κ×V),(kvs.any fun kv=>decide (kv.1=k))=(valV kvs k).isSome
 |[]=>rfl
 |p::r=>by
  rw[List.any_cons]
  by_cases e:p.1=k
  ·simp only[valV_pos e,decide_eq_true e,Bool.true_or,Option.isSome_some]
  ·rw[valV_neg e,decide_eq_false e,Bool.false_or]; exact valV_any k r
theorem RelO.isSome_eq{o:Option V}{u:Option Value}(r:RelO o u):o.isSome=u.isSome:=by
 cases o with
 |none=>cases u with
  |none=>rfl
  |some _=>exact(show False from r).elim
 |some _=>cases u with
  |none=>exact(show False from r).elim
  |some _=>rfl
theorem RelO.getD{o:Option V}{u:Option Value}{d:V}{d':Value}(r:RelO o u)(rd:RelV d d'):RelV (o.getD d) (u.getD d'):=by
 cases o with
 |none=>cases u with
  |none=>exact rd
  |some _=>exact(show False from r).elim
 |some _=>cases u with
  |none=>exact(show False from r).elim
  |some _=>exact r
theorem KV.val{kvs:List (κ×V)}{vs:List (κ×Value)}(r:KV kvs vs)(k:κ):RelO (valV kvs k) (valueAt vs k):=by
 unfold KV at r
 induction r with
 |nil=>exact True.intro
 |@cons p q ps qs h t ih=>
  obtain⟨h1,h2⟩:=h
  by_cases e:p.1=k
  ·have e':q.1=k:=h1.symm.trans e
   have b:valueAt (q::qs) k=some q.2:=by simp[valueAt,List.find?_cons,e']
   rw[valV_pos e,b]; exact h2
  ·have e':¬ q.1=k:=fun z=>e (h1.trans z)
   have b:valueAt (q::qs) k=valueAt qs k:=by simp[valueAt,List.find?_cons,e']
   rw[valV_neg e,b]; exact ih
theorem KV.any{kvs:List (κ×V)}{vs:List (κ×Value)}(r:KV kvs vs)(k:κ):(kvs.any fun kv=>decide (kv.1=k))=vs.any fun kv=>decide (kv.1=k):=by
 unfold KV at r
 induction r with
 |nil=>rfl
 |cons h t ih=>rw[List.any_cons,List.any_cons,ih,h.1]
theorem KV.repl{kvs:List (κ×V)}{vs:List (κ×Value)}(r:KV kvs vs)(k:κ){y:V}{u:Value}(ry:RelV y u):
  KV (kvs.map fun kv=>if kv.1=k then(kv.1,y) else kv) (vs.map fun kv=>if kv.1=k then(kv.1,u) else kv):=by
 unfold KV at r ⊢
 induction r with
 |nil=>exact .nil
 |@cons p q ps qs h t ih=>
  rw[List.map_cons,List.map_cons]
  refine .cons ?_ ih
  obtain⟨h1,h2⟩:=h
  by_cases e:p.1=k
  ·rw[if_pos e,if_pos (h1.symm.trans e)]; exact⟨h1,ry⟩
  ·rw[if_neg e,if_neg (fun z=>e (h1.trans z))]; exact⟨h1,h2⟩
theorem KV.put{kvs:List (κ×V)}{vs:List (κ×Value)}(r:KV kvs vs)(k:κ){y:V}{u:Value}(ry:RelV y u):KV (putK kvs k y) (stored vs k u):=by
 unfold putK stored
 rw[r.any k]
 by_cases e:(vs.any fun kv=>decide (kv.1=k))=true
 ·rw[if_pos e,if_pos e]; exact r.repl k ry
 ·rw[if_neg e,if_neg e]; exact Paired.snoc r ⟨rfl,ry⟩
theorem KV.drop{kvs:List (κ×V)}{vs:List (κ×Value)}(r:KV kvs vs)(k:κ):KV (dropK kvs k) (without vs k):=by
 unfold KV at r ⊢
 unfold dropK without
 induction r with
 |nil=>exact .nil
 |@cons p q ps qs h t ih=>
  obtain⟨h1,h2⟩:=h
  rw[List.filter_cons,List.filter_cons]
  by_cases e:p.1=k
  ·have a:¬ decide (p.1≠k)=true:=by simp[e]
   have b:¬ decide (q.1≠k)=true:=by simp[h1.symm.trans e]
   rw[if_neg a,if_neg b]; exact ih
  ·have e':¬ q.1=k:=fun z=>e (h1.trans z)
   have a:decide (p.1≠k)=true:=by simp[e]
   have b:decide (q.1≠k)=true:=by simp[e']
   rw[if_pos a,if_pos b]; exact .cons ⟨h1,h2⟩ ih
theorem KV.keys{kvs:List (κ×V)}{vs:List (κ×Value)}(r:KV kvs vs):kvs.map (·.1)=vs.map (·.1):=by
 unfold KV at r
 induction r with
 |nil=>rfl
 |cons h t ih=>rw[List.map_cons,List.map_cons,ih,h.1]
theorem KV.length{kvs:List (κ×V)}{vs:List (κ×Value)}(r:KV kvs vs):kvs.length=vs.length:=Paired.length r
end
abbrev KT(H:Hp):List (List Key×V)→List (List Key×Addr×Value)→Prop:=Paired fun p q=>p.1=q.1∧H q.2.1=some (.tup (p.1.map kV))∧RelV p.2 q.2.2
theorem KT.val{H:Hp}{kvs:List (List Key×V)}{xs:List (List Key×Addr×Value)}(r:KT H kvs xs)(k:List Key):RelO (valV kvs k) ((atKey xs k).map (·.2)):=by
 induction r with
 |nil=>exact True.intro
 |@cons p q ps qs h t ih=>
  obtain⟨h1,_,h2⟩:=h
  by_cases e:p.1=k
  ·have e':q.1=k:=h1.symm.trans e
   have b:atKey (q::qs) k=some q.2:=by simp[atKey,List.find?_cons,e']
   rw[valV_pos e,b]; exact h2
  ·have e':¬ q.1=k:=fun z=>e (h1.trans z)
   have b:atKey (q::qs) k=atKey qs k:=by simp[atKey,List.find?_cons,e']
   rw[valV_neg e,b]; exact ih
theorem KT.repl{H:Hp}{kvs:List (List Key×V)}{xs:List (List Key×Addr×Value)}(r:KT H kvs xs)(k:List Key){y:V}{u:Value}(ry:RelV y u):
  KT H (kvs.map fun kv=>if kv.1=k then(kv.1,y) else kv) (xs.map (putAt k u)):=by
 induction r with
 |nil=>exact .nil
 |@cons p q ps qs h t ih=>
  rw[List.map_cons,List.map_cons]
  refine .cons ?_ ih
  obtain⟨h1,h2,h3⟩:=h
  unfold putAt
  by_cases e:p.1=k
  ·rw[if_pos e,if_pos (h1.symm.trans e)]; exact⟨h1,h2,ry⟩
  ·rw[if_neg e,if_neg (fun z=>e (h1.trans z))]; exact⟨h1,h2,h3⟩
theorem KT.put{H:Hp}{kvs:List (List Key×V)}{xs:List (List Key×Addr×Value)}(r:KT H kvs xs)(k:List Key){b:Addr}{y:V}{u:Value}(hb:H b=some (.tup (k.map kV)))(ry:RelV y u):
  KT H (putK kvs k y) (storedH xs k b u):=by
 have e:(kvs.any fun kv=>decide (kv.1=k))=(atKey xs k).isSome:=by
  rw[valV_any,(r.val k).isSome_eq,Option.isSome_map]
 unfold putK storedH
 rw[e]
 by_cases q:(atKey xs k).isSome=true
 ·rw[if_pos q,if_pos q]; exact r.repl k ry
 ·rw[if_neg q,if_neg q]; exact Paired.snoc r ⟨rfl,hb,ry⟩
theorem KT.keeps{H H':Hp}{kvs:List (List Key×V)}{xs:List (List Key×Addr×Value)}(r:KT H kvs xs)(ht:∀ b ys,H b=some (.tup ys)→H' b=some (.tup ys)):KT H' kvs xs:=
 Paired.mapP r fun _ _ z=>⟨z.1,ht _ _ z.2.1,z.2.2⟩
section
variable {P:Program}{w:World}{H:Hp}{h:Heap}{a:Addr}
end
def DGet(H:Hp)(a:Addr)(y:V)(r:Option V):Prop:=
 (∃ kvs k,Rd H a (.dK kvs)∧y=kV k∧r=valV kvs k)∨∃ kvs k b,Rd H a (.dT kvs)∧y=.ref b∧H b=some (.tup (k.map kV))∧r=valV kvs k
def DPut(H:Hp)(a:Addr)(y v:V)(H':Hp):Prop:=
 (∃ kvs k,H a=some (.dK kvs)∧y=kV k∧kvs.length<sizeLine∧H'=upd H a (.dK (putK kvs k v)))∨
 ∃ kvs k b,H a=some (.dT kvs)∧y=.ref b∧H b=some (.tup (k.map kV))∧kvs.length<sizeLine∧H'=upd H a (.dT (putK kvs k v))
theorem DGet.k{H:Hp}{a:Addr}{kvs:List (Key×V)}{k:Key}(e:H a=some (.dK kvs)):DGet H a (kV k) (valV kvs k):=.inl ⟨kvs,k,.inl e,rfl,rfl⟩
theorem DGet.t{H:Hp}{a b:Addr}{kvs:List (List Key×V)}{k:List Key}(e:H a=some (.dT kvs))(eb:H b=some (.tup (k.map kV))):DGet H a (.ref b) (valV kvs k):=.inr ⟨kvs,k,b,.inl e,rfl,eb,rfl⟩
theorem DPut.k{H:Hp}{a:Addr}{kvs:List (Key×V)}{k:Key}{v:V}(e:H a=some (.dK kvs))(hl:kvs.length<sizeLine):DPut H a (kV k) v (upd H a (.dK (putK kvs k v))):=.inl ⟨kvs,k,e,rfl,hl,rfl⟩
theorem DPut.t{H:Hp}{a b:Addr}{kvs:List (List Key×V)}{k:List Key}{v:V}(e:H a=some (.dT kvs))(eb:H b=some (.tup (k.map kV)))(hl:kvs.length<sizeLine):
  DPut H a (.ref b) v (upd H a (.dT (putK kvs k v))):=.inr ⟨kvs,k,b,e,rfl,eb,hl,rfl⟩
section
variable {X:Cx}{pins:List (Addr×Obj)}{σ:St}{H:Hp}{s:Shared}{a:Addr}{y v:V}{u r:Value}{o:Option V}{A:Around}{E:Value→Shared→Prop}
theorem Inv.big(I:Inv X pins σ H s):sysModules<s.heap.objs.size:=by
 have h:mainGlobals<s.heap.objs.size:=(I.mod.glob.keeps I.bk).lt
 exact Nat.lt_trans (by decide) h
end
section
variable {X:Cx}{pins:List (Addr×Obj)}{σ:St}{H:Hp}{s:Shared}{a:Addr}{kvs:List (Key×V)}{k:Key}{u:Value}{A:Around}{E:Value→Shared→Prop}
end
section
variable {X:Cx}{o i e value:Expr}{pos pos' tpos:Pos}{td ty tv:TE}
end
section
variable {X:Cx}{pos:Pos}
end
structure M1 (X:Cx) (o:Expr) (m:Str) (apos:Pos) (e:Expr) (cpos:Pos):Prop where
 base:attributeBase o m X.env (eval o X.env)=eval o X.env
 few:((backTo cpos (starEach [e] X.env)).all (fun x=>!x.1)&&(backToKw cpos (keywordEach [] X.env)).all (fun x=>x.1.isSome)
  && decide (([e]:List Expr).length+([]:List Keyword).length+(if ([]:List Keyword).isEmpty then 0 else 1)<30))=true
 line:(apos.endLine==cpos.line)=true
 trees:backTo cpos (starEach [e] X.env)=[(false,eval e X.env)]
structure M2 (X:Cx) (o:Expr) (m:Str) (apos:Pos) (e f:Expr) (cpos:Pos):Prop where
 base:attributeBase o m X.env (eval o X.env)=eval o X.env
 few:((backTo cpos (starEach [e,f] X.env)).all (fun x=>!x.1)&&(backToKw cpos (keywordEach [] X.env)).all (fun x=>x.1.isSome)
  && decide (([e,f]:List Expr).length+([]:List Keyword).length+(if ([]:List Keyword).isEmpty then 0 else 1)<30))=true
 line:(apos.endLine==cpos.line)=true
 trees:backTo cpos (starEach [e,f] X.env)=[(false,eval e X.env),(false,eval f X.env)]
def IsD(H:Hp)(a:Addr):Prop:=(∃ kvs,Rd H a (.dK kvs))∨∃ kvs,Rd H a (.dT kvs)
section
variable {X:Cx}{pins:List (Addr×Obj)}{σ:St}{H:Hp}{s:Shared}{a:Addr}{y d:V}{u r:Value}{o:Option V}{A:Around}{E:Value→Shared→Prop}
end
section
variable {X:Cx}{o e f:Expr}{apos cpos:Pos}{td ty tx:TE}
end
section
variable {X:Cx}{pins:List (Addr×Obj)}{σ:St}{H:Hp}{s:Shared}{a:Addr}{kvs:List (Key×V)}{A:Around}{E:Value→Shared→Prop}
end
section
variable {X:Cx}{pins:List (Addr×Obj)}{σ:St}{H:Hp}{s:Shared}{a:Addr}{y:V}{u:Value}{A:Around}{E:Value→Shared→Prop}
end
end L2
end
section
namespace M
open PySem (Str Operator CmpOp)
inductive D where
 |non|bl (b:Bool)|int (i:Int)|str (s:Str)|tup (ds:List D)|lst (ds:List D)|loc (l:Nat)
 deriving Inhabited
inductive Cell where
 |lst (w:Bool) (ds:List D)
 /-- a dict,its keys ints and texts -/
 |dic (kvs:List (D×D))
 deriving Inhabited
abbrev Store:=List Cell
abbrev Sl:=List (Option D)
noncomputable def lim:Nat:=16777216
inductive Ty where
 |non|bl|int|str|tup|lst
 deriving DecidableEq
noncomputable def Ty.name:Ty→String
 |.non=>"NoneType"
 |.bl=>"bool"
 |.int=>"int"
 |.str=>"str"
 |.tup=>"tuple"
 |.lst=>"list"
inductive B where
 |len|min|max|tuple|list|all|sorted|int|str
inductive Mt where
 |append|find|join|split|extend|index
inductive T where
 |var (i:Nat)
 |tup (is:List Nat)
noncomputable def T.slots:T→List Nat
 |.var i=>[i]
 |.tup is=>is
inductive E where
 |var (i:Nat)
 |lit (d:D)
 |glo (x:Str) (d:D)
 |bin (op:Operator) (a b:E)
 |neg (a:E)
 |not (a:E)
 |cmp (op:CmpOp) (a b:E)
 |cmp2 (op op':CmpOp) (a b c:E)
 |and (a b:E)
 |or (a b:E)
 |ite (c a b:E)
 |tup (es:List E)
 |lst (es:List E)
 |idx (a b:E)
 |sli (a:E) (lo hi:Option E)
 |call (f:Nat) (es:List E)
 |bcall (f:B) (es:List E)
 |isi (a:E) (ts:List Ty) (many:Bool)
 |meth (a:E) (m:Mt) (es:List E)
 /-- what a part made is dropped where nothing else holds it; a list that it tells is a value from then on -/
 |gc (a:E)
 |rng1 (a:E)
 |rng2 (a b:E)
 |rng3 (a b c:E)
 |zip (a b:E)
 /-- a written dict: key,value,key,value .. -/
 |dic (es:List E)
 |didx (a b:E)
 |din (neg:Bool) (a b:E)
 |dgt (a b:E)
 |fmt (a:E)
 |fstr (es:List E)
 /-- of a dict of the file's top: its keys,its values -/
 |gidx (x:Str) (ks:List Str) (ds:List D) (b:E)
 |gin (neg:Bool) (x:Str) (ks:List Str) (b:E)
 /-- the number of unlike things of a tuple of tuples of ints -/
 |lenset (a:E)
 /-- tuples,one behind the other -/
 |cat (a b:E)
 |comp (t:T) (it:E) (test:Option E) (elt:E) (src:List (Option Nat))
inductive S where
 |set (t:T) (e:E)
 |setIx (a i e:E)
 |dset (a i e:E)
 |rais
 |expr (e:E)
 |ret (e:E)
 |retN
 |ite (c:E) (a b:List S)
 |forr (t:T) (it:E) (body:List S)
 |whil (c:E) (body:List S)
 |aug (i:Nat) (op:Operator) (e:E)
 |brk|cnt|pass
structure Fn where
 np:Nat
 nl:Nat
 body:List S
mutual
noncomputable def eqT:D→D→Bool
 |.non,.non=>true
 |.bl a,.bl b=>a==b
 |.bl a,.int j=>(if a then 1 else 0)==j
 |.int i,.bl b=>i==(if b then 1 else 0)
 |.int i,.int j=>i==j
 |.str a,.str b=>a==b
 |.tup a,.tup b=>eqTs a b
 |_,_=>false
noncomputable def eqTs:List D→List D→Bool
 |[],[]=>true
 |a::as,b::bs=>eqT a b&&eqTs as bs
 |_,_=>false
end
mutual
/-- no place of the store within,at most n deep -/
noncomputable def flat:Nat→D→Bool
 |_,.loc _=>false
 |_,.lst _=>false
 |0,.tup _=>false
 |n+1,.tup ds=>flats n ds
 |_,_=>true
noncomputable def flats:Nat→List D→Bool
 |_,[]=>true
 |n,d::ds=>flat n d&&flats n ds
end
noncomputable def mulOk(i j:Int):Bool:=(decide (-(2 ^ 64)<i)&&decide (i<2 ^ 64))||(decide (-(2 ^ 64)<j)&&decide (j<2 ^ 64))
noncomputable def listAt(st:Store)(l:Nat):Option (List D):=match st[l]? with|some (.lst _ ds)=>some ds|_=>none
noncomputable def wlistAt(st:Store)(l:Nat):Option (List D):=match st[l]? with|some (.lst true ds)=>some ds|_=>none
noncomputable def seqAt(st:Store):D→Option (List D)
 |.loc l=>listAt st l
 |.lst ds=>some ds
 |_=>none
mutual
/-- no place of the store within -/
noncomputable def noLoc:D→Bool
 |.loc _=>false
 |.tup ds=>noLocs ds
 |.lst ds=>noLocs ds
 |_=>true
noncomputable def noLocs:List D→Bool
 |[]=>true
 |d::ds=>noLoc d&&noLocs ds
end
open Classical in
noncomputable def gcD(st:Store)(p:D×Store):D×Store:=
 if p.2.take st.length=st then
  if noLoc p.1 then(p.1,st) else match p.1 with
   |.loc l=>if st.length≤l then(match p.2[l]? with
    |some (.lst true ds)=>if noLocs ds then(.lst ds,st) else p
    |_=>p) else p
   |_=>p
 else p
noncomputable def dicAt(st:Store)(l:Nat):Option (List (D×D)):=match st[l]? with|some (.dic kvs)=>some kvs|_=>none
noncomputable def isKey:D→Bool
 |.int _=>true
 |.str _=>true
 |_=>false
noncomputable def dget(kvs:List (D×D))(k:D):Option D:=(kvs.find? fun p=>eqT p.1 k).map (·.2)
noncomputable def dput(kvs:List (D×D))(k v:D):List (D×D):=if kvs.any fun p=>eqT p.1 k then kvs.map (fun p=>if eqT p.1 k then(p.1,v) else p) else kvs++[(k,v)]
noncomputable def pairUp:List D→Option (List (D×D))
 |[]=>some []
 |k::v::r=>if isKey k then(pairUp r).map ((k,v)::·) else none
 |_=>none
noncomputable def dall(kvs:List (D×D)):List (D×D):=kvs.foldl (fun acc p=>dput acc p.1 p.2) []
noncomputable def alloc(st:Store)(c:Cell):D×Store:=(.loc st.length,st++[c])
noncomputable def binop(st:Store):Operator→D→D→Option (D×Store)
 |.Add,.int i,.int j=>some (.int (i+j),st)
 |.Add,.tup a,.tup b=>if a.isEmpty||decide (lim<a.length+b.length) then none else some (.tup (a++b),st)
 |.Add,.str a,.str b=>if lim<a.length+b.length then none else some (.str (a++b),st)
 |.Add,a,b=>(seqAt st a).bind fun x=>(seqAt st b).bind fun y=>if lim<x.length+y.length then none else some (alloc st (.lst true (x++y)))
 |.Sub,.int i,.int j=>some (.int (i - j),st)
 |.Mult,.int i,.int j=>if mulOk i j then some (.int (i*j),st) else none
 |.Mult,.tup a,.int k=>if decide (k < -(2 ^ 62))||decide (2 ^ 62≤k)||decide (lim<a.length*k.toNat) then none else some (.tup (List.replicate k.toNat a).flatten,st)
 |.Mult,.loc l,.int k=>(wlistAt st l).bind fun a=>if decide (k < -(2 ^ 62))||decide (2 ^ 62≤k)||decide (lim<a.length*k.toNat) then none else some (alloc st (.lst true (List.replicate k.toNat a).flatten))
 |.FloorDiv,.int i,.int j=>if 0<j∧j<2 ^ 64 then some (.int (i / j),st) else none
 |.Mod,.int i,.int j=>if 0<j then some (.int (i % j),st) else none
 |.Pow,.int i,.int j=>if 0≤j∧j≤1000∧i.natAbs<2 ^ 64 then some (.int (i ^ j.toNat),st) else none
 |_,_,_=>none
noncomputable def addK(S:List (List Int))(k:List Int):List (List Int):=if k∈S then S else S++[k]
noncomputable def distinct(ks:List (List Int)):List (List Int):=ks.foldl addK []
noncomputable def keyD:D→Option (List Int)
 |.tup ds=>ds.mapM fun d=>match d with|.int i=>some i|_=>none
 |_=>none
noncomputable def lensetD:D→Option D
 |.tup ds=>(ds.mapM keyD).bind fun ks=>if ds.length≤16 then some (.int (distinct ks).length) else none
 |_=>none
noncomputable def catT(st:Store):D→D→Option (D×Store)
 |.tup a,.tup b=>if lim<a.length+b.length then none else some (.tup (a++b),st)
 |_,_=>none
noncomputable def ixN(n:Nat)(i:Int):Option Nat:=if 0≤i then(if i<n then some i.toNat else none) else if -(n:Int)≤i then some (i+n).toNat else none
noncomputable def atI{α:Type}(xs:List α)(i:Int):Option α:=(ixN xs.length i).bind fun j=>xs[j]?
noncomputable def idxD(st:Store):D→D→Option D
 |.tup ds,.int i=>atI ds i
 |.str z,.int i=>if lim<z.length then none else(atI z.cps.toList i).map fun c=>.str ⟨#[c]⟩
 |d,.int i=>(seqAt st d).bind fun ds=>atI ds i
 |_,_=>none
noncomputable def cutIx(n d:Nat):Option Int→Nat
 |none=>d
 |some v=>if v<0 then(v+(n:Int)).toNat else min v.toNat n
noncomputable def cut{α:Type}(xs:List α)(lo hi:Option Int):List α:=(xs.drop (cutIx xs.length 0 lo)).take (cutIx xs.length xs.length hi - cutIx xs.length 0 lo)
noncomputable def oneOf(z:Str):Option Nat:=match z.cps.toList with
 |[c]=>some c
 |_=>none
noncomputable def sliD(st:Store):D→Option Int→Option Int→Option (D×Store)
 |.tup ds,lo,hi=>some (.tup (cut ds lo hi),st)
 |.str z,lo,hi=>if lim<z.length then none else some (.str ⟨(cut z.cps.toList lo hi).toArray⟩,st)
 |d,lo,hi=>(seqAt st d).map fun ds=>alloc st (.lst true (cut ds lo hi))
noncomputable def inD(st:Store)(x:D):D→Option Bool
 |.tup ds=>if flat 9 x&&flats 9 ds then some (ds.any fun y=>eqT y x) else none
 |.str z=>match x with
  |.str i=>(oneOf i).map fun c=>decide (c∈z.cps.toList)
  |_=>none
 |d=>(seqAt st d).bind fun ds=>if flat 9 x&&flats 9 ds then some (ds.any fun y=>eqT y x) else none
noncomputable def eqD(st:Store)(x y:D):Option Bool:=match seqAt st x,seqAt st y with
 |some a,some b=>if flats 9 a&&flats 9 b then some (eqTs a b) else none
 |_,_=>if flat 9 x&&flat 9 y then some (eqT x y) else none
noncomputable def neD(st:Store)(a b:D):Option Bool:=(eqD st a b).map (!·)
noncomputable def isNon:D→Bool
 |.non=>true
 |_=>false
noncomputable def cmpD(st:Store):CmpOp→D→D→Option Bool
 |.Lt,.int i,.int j=>some (decide (i<j))
 |.LtE,.int i,.int j=>some (decide (i≤j))
 |.Gt,.int i,.int j=>some (decide (j<i))
 |.GtE,.int i,.int j=>some (decide (j≤i))
 |.Eq,x,y=>eqD st x y
 |.NotEq,x,y=>neD st x y
 |.Is,x,.non=>some (isNon x)
 |.IsNot,x,.non=>some (!isNon x)
 |.In,x,y=>inD st x y
 |.NotIn,x,y=>(inD st x y).map (!·)
 |_,_,_=>none
noncomputable def tyName(st:Store):D→Option Ty
 |.non=>some .non
 |.bl _=>some .bl
 |.int _=>some .int
 |.str _=>some .str
 |.tup _=>some .tup
 |d=>(seqAt st d).map fun _=>.lst
noncomputable def tyIs(t n:Ty):Bool:=t==n||(t==.int&&n==.bl)
noncomputable def truth(st:Store):D→Option Bool
 |.non=>some false
 |.bl b=>some b
 |.int i=>some (i != 0)
 |.tup ds=>some (!ds.isEmpty)
 |.str z=>if lim<z.length then none else some ((z.length:Int) != 0)
 |d=>(seqAt st d).map fun ds=>!ds.isEmpty
noncomputable def insInt(x:Int):List Int→List Int
 |[]=>[x]
 |y::r=>if x≤y then x::y::r else y::insInt x r
noncomputable def sortInt:List Int→List Int
 |[]=>[]
 |x::r=>insInt x (sortInt r)
noncomputable def asInts:List D→Option (List Int)
 |[]=>some []
 |.int i::r=>(asInts r).map (i::·)
 |_=>none
noncomputable def asBools:List D→Option (List Bool)
 |[]=>some []
 |.bl i::r=>(asBools r).map (i::·)
 |_=>none
noncomputable def bLen(st:Store):List D→Option (D×Store)
 |[.tup ds]=>some (.int ds.length,st)
 |[.str z]=>if lim<z.length then none else some (.int z.length,st)
 |[d]=>(seqAt st d).map fun ds=>(.int ds.length,st)
 |_=>none
noncomputable def augD(st:Store):Operator→D→D→Option D
 |.Add,.int i,.int j=>some (.int (i+j))
 |.Sub,.int i,.int j=>some (.int (i - j))
 |.Mult,.int i,.int j=>if mulOk i j then some (.int (i*j)) else none
 |.Add,.str a,.str b=>if lim<a.length+b.length then none else some (.str (a++b))
 |_,_,_=>none
noncomputable def bMin(st:Store):List D→Option (D×Store)
 |[.int i,.int j]=>some (.int (if j<i then j else i),st)
 |_=>none
noncomputable def bMax(st:Store):List D→Option (D×Store)
 |[.int i,.int j]=>some (.int (if j > i then j else i),st)
 |_=>none
noncomputable def bTuple(st:Store):List D→Option (D×Store)
 |[.tup ds]=>some (.tup ds,st)
 |[d]=>(seqAt st d).map fun ds=>(.tup ds,st)
 |_=>none
noncomputable def bList(st:Store):List D→Option (D×Store)
 |[.tup ds]=>some (alloc st (.lst true ds))
 |[d]=>(seqAt st d).map fun ds=>alloc st (.lst true ds)
 |_=>none
noncomputable def bAll(st:Store):List D→Option (D×Store)
 |[d]=>(seqAt st d).bind fun ds=>(asBools ds).map fun bs=>(.bl (bs.all id),st)
 |_=>none
noncomputable def asPairs:List D→Option (List (Int×Int))
 |[]=>some []
 |.tup [.int x,.int y]::r=>(asPairs r).map ((x,y)::·)
 |_=>none
noncomputable def leP(a b:Int×Int):Bool:=decide (a.1<b.1)||(decide (a.1=b.1)&&decide (a.2≤b.2))
noncomputable def insP(x:Int×Int):List (Int×Int)→List (Int×Int)
 |[]=>[x]
 |y::r=>if leP x y then x::y::r else y::insP x r
noncomputable def sortP:List (Int×Int)→List (Int×Int)
 |[]=>[]
 |x::r=>insP x (sortP r)
noncomputable def pD(p:Int×Int):D:=.tup [.int p.1,.int p.2]
noncomputable def bSorted(st:Store):List D→Option (D×Store)
 |[d]=>(seqAt st d).bind fun ds=>((if 64≤ds.length then none else asInts ds).map fun ns=>alloc st (.lst true ((sortInt ns).map .int))).or ((asPairs ds).map fun ps=>alloc st (.lst true ((sortP ps).map pD)))
 |_=>none
noncomputable def isFig(c:Nat):Bool:=decide (48≤c)&&decide (c≤57)
noncomputable def figVal(cs:List Nat):Nat:=cs.foldl (fun acc c=>acc*10+(c - 48)) 0
noncomputable def bInt(st:Store):List D→Option (D×Store)
 |[.str z]=>if !z.cps.toList.isEmpty&&z.cps.toList.all isFig&&decide (z.length≤640) then some (.int (figVal z.cps.toList:Nat),st) else none
 |[.int i]=>some (.int i,st)
 |_=>none
noncomputable def bStr(st:Store):List D→Option (D×Store)
 |[.int i]=>if i.natAbs.log2<1920 then some (.str (Str.ofString (toString i)),st) else none
 |[.str z]=>some (.str z,st)
 |_=>none
noncomputable def splitC(c:Nat):List Nat→List (List Nat)
 |[]=>[[]]
 |x::r=>if x=c then []::splitC c r else match splitC c r with
  |[]=>[[x]]
  |p::ps=>(x::p)::ps
noncomputable def mSplit(st:Store):D→List D→Option (D×Store)
 |.str z,[.str y]=>(oneOf y).bind fun c=>if z.length<1000000 then some (alloc st (.lst true ((splitC c z.cps.toList).map fun p=>.str ⟨p.toArray⟩))) else none
 |_,_=>none
noncomputable def fmtD:D→Option D
 |.int i=>if i.natAbs.log2<1920 then some (.str (Str.ofString (toString i))) else none
 |.str z=>if z.length≤lim then some (.str z) else none
 |_=>none
noncomputable def catD:List D→Str→Option Str
 |[],acc=>some acc
 |.str z::r,acc=>if (acc++z).length≤lim then catD r (acc++z) else none
 |_,_=>none
noncomputable def asStrs:List D→Option (List Str)
 |[]=>some []
 |.str i::r=>(asStrs r).map (i::·)
 |_=>none
noncomputable def findC(cs:List Nat)(c:Nat):Int:=match cs.findIdx? (· == c) with
 |some i=>(i:Int)
 |none=>-1
noncomputable def mFind(st:Store):D→List D→Option (D×Store)
 |.str z,[.str y]=>(oneOf y).map fun c=>(.int (findC z.cps.toList c),st)
 |_,_=>none
noncomputable def mJoin(st:Store):D→List D→Option (D×Store)
 |.str z,[d]=>(seqAt st d).bind fun ds=>(asStrs ds).bind fun ts=>if (ts.map (·.length)).sum+ts.length*z.length≤lim then some (.str (Str.join z ts),st) else none
 |_,_=>none
noncomputable def bfun(st:Store):B→List D→Option (D×Store)
 |.len=>bLen st
 |.min=>bMin st
 |.max=>bMax st
 |.tuple=>bTuple st
 |.list=>bList st
 |.all=>bAll st
 |.sorted=>bSorted st
 |.int=>bInt st
 |.str=>bStr st
noncomputable def mAppend(st:Store):D→List D→Option (D×Store)
 |.loc l,[d]=>(wlistAt st l).bind fun ds=>if ds.length<lim then some (.non,st.set l (.lst true (ds++[d]))) else none
 |_,_=>none
noncomputable def mExtend(st:Store):D→List D→Option (D×Store)
 |.loc l,[d]=>(wlistAt st l).bind fun ds=>(match d with|.tup es=>some es|d=>seqAt st d).bind fun es=>if ds.length+es.length≤lim then some (.non,st.set l (.lst true (ds++es))) else none
 |_,_=>none
noncomputable def mIndex(st:Store):D→List D→Option (D×Store)
 |d,[x]=>(seqAt st d).bind fun ds=>if flat 9 x&&flats 9 ds then(ds.findIdx? fun y=>eqT y x).map fun(j:Nat)=>(.int (j:Int),st) else none
 |_,_=>none
noncomputable def mfun(st:Store):Mt→D→List D→Option (D×Store)
 |.append=>mAppend st
 |.find=>mFind st
 |.join=>mJoin st
 |.split=>mSplit st
 |.extend=>mExtend st
 |.index=>mIndex st
noncomputable def Mt.ofList:Mt→Bool
 |.append=>true
 |.extend=>true
 |.index=>true
 |_=>false
noncomputable def mty(st:Store)(m:Mt):D→Bool
 |.str _=>!m.ofList
 |d=>m.ofList&&(seqAt st d).isSome
noncomputable def setIxD(st:Store):D→D→D→Option Store
 |.loc l,.int i,d=>(wlistAt st l).bind fun ds=>(ixN ds.length i).map fun j=>st.set l (.lst true (ds.set j d))
 |_,_,_=>none
inductive Out where
 |nx (τ:Sl)
 |rt (d:D)
 |bk (τ:Sl)
 |ct (τ:Sl)
structure R where
 ev:Sl→Store→E→Option (D×Store)
 tst:Sl→Store→E→Option (Bool×Store)
 ex:Sl→Store→List S→Option (Out×Store)
 call:Nat→List D→Store→Option (D×Store)
noncomputable def evs(f:Store→E→Option (D×Store)):List E→Store→Option (List D×Store)
 |[],st=>some ([],st)
 |e::es,st=>(f st e).bind fun p=>(evs f es p.2).bind fun q=>some (p.1::q.1,q.2)
noncomputable def setIs:List Nat→List D→Sl→Option Sl
 |[],[],τ=>some τ
 |i::is,d::ds,τ=>if i<τ.length then setIs is ds (τ.set i (some d)) else none
 |_,_,_=>none
noncomputable def setT:T→D→Sl→Option Sl
 |.var i,d,τ=>if i<τ.length then some (τ.set i (some d)) else none
 |.tup is,.tup ds,τ=>setIs is ds τ
 |_,_,_=>none
inductive Src where
 |tup (ds:List D)
 |lst (d:D)
 |rng (lo:Int) (n:Nat)
 |rgs (lo c:Int) (n:Nat)
 |zip (a b:D)
 |str (z:Str)
noncomputable def rowAt(st:Store):D→Option (List D)
 |.tup ds=>some ds
 |d=>seqAt st d
noncomputable def pairAt(xs ys:List D)(i:Nat):Option D:=match xs[i]?,ys[i]? with
 |some x,some y=>some (.tup [x,y])
 |_,_=>none
noncomputable def Src.at(st:Store)(i:Nat):Src→Option (Option D)
 |.tup ds=>some ds[i]?
 |.lst d=>(seqAt st d).map fun ds=>ds[i]?
 |.rng lo n=>some (if i<n then some (.int (lo+i)) else none)
 |.rgs lo c n=>some (if i<n then some (.int (lo+i*c)) else none)
 |.zip a b=>(rowAt st a).bind fun xs=>(rowAt st b).map fun ys=>pairAt xs ys i
 |.str z=>some ((z.cps.toList.map fun c=>D.str ⟨#[c]⟩)[i]?)
noncomputable def Src.size(st:Store):Src→Nat
 |.tup ds=>ds.length
 |.lst d=>((seqAt st d).getD []).length
 |.rng _ n=>n
 |.rgs _ _ n=>n
 |.str z=>z.cps.toList.length
 |.zip a b=>min ((rowAt st a).getD []).length ((rowAt st b).getD []).length
noncomputable def big(i:Int):Bool:=decide (i < -(2 ^ 62))||decide (2 ^ 62≤i)
noncomputable def src(r:R)(τ:Sl)(st:Store):E→Option (Src×Store)
 |.rng1 a=>(r.ev τ st a).bind fun p=>match p.1 with
  |.int n=>if big n then none else some (.rng 0 n.toNat,p.2)
  |_=>none
 |.rng2 a b=>(r.ev τ st a).bind fun p=>(r.ev τ p.2 b).bind fun q=>match p.1,q.1 with
  |.int i,.int j=>if big i||big j then none else some (.rng i (j - i).toNat,q.2)
  |_,_=>none
 |.rng3 a b c=>(r.ev τ st a).bind fun p=>(r.ev τ p.2 b).bind fun q=>(r.ev τ q.2 c).bind fun u=>match p.1,q.1,u.1 with
  |.int i,.int j,.int k=>if big i||big j || !(decide (0<k)&&decide (k<1000)) then none else some (.rgs i k (if i<j then(j - i - 1) / k+1 else 0).toNat,u.2)
  |_,_,_=>none
 |.zip a b=>(r.ev τ st a).bind fun p=>(r.ev τ p.2 b).bind fun q=>(rowAt q.2 p.1).bind fun _=>(rowAt q.2 q.1).map fun _=>(.zip p.1 q.1,q.2)
 |e=>(r.ev τ st e).bind fun p=>match p.1 with
  |.tup ds=>some (.tup ds,p.2)
  |.str z=>if z.cps.all (· < 128) then some (.str z,p.2) else none
  |d=>(seqAt p.2 d).map fun _=>(.lst d,p.2)
noncomputable def loop(it:Src)(f:Sl→Store→D→Option (Out×Store)):Nat→Nat→Sl→Store→Option (Out×Store)
 |0,_,_,_=>none
 |k+1,i,τ,st=>(it.at st i).bind fun o=>match o with
  |none=>some (.nx τ,st)
  |some d=>(f τ st d).bind fun p=>match p.1 with
   |.nx τ'=>loop it f k (i+1) τ' p.2
   |.ct τ'=>loop it f k (i+1) τ' p.2
   |.bk τ'=>some (.nx τ',p.2)
   |.rt v=>some (.rt v,p.2)
noncomputable def turnC(r:R)(t:T)(test:Option E)(elt:E)(τ:Sl)(st:Store)(d:D):Option (Option D×Sl×Store):=
 (setT t d τ).bind fun τ'=>match test with
  |none=>(r.ev τ' st elt).map fun p=>(some p.1,τ',p.2)
  |some c=>(r.tst τ' st c).bind fun b=>if b.1 then(r.ev τ' b.2 elt).map fun p=>(some p.1,τ',p.2) else some (none,τ',b.2)
noncomputable def loopC(it:Src)(f:Sl→Store→D→Option (Option D×Sl×Store)):Nat→Nat→List D→Sl→Store→Option (List D×Store)
 |0,_,_,_,_=>none
 |k+1,i,acc,τ,st=>(it.at st i).bind fun o=>match o with
  |none=>if lim<acc.length then none else some (acc,st)
  |some d=>if lim≤acc.length then none else(f τ st d).bind fun p=>loopC it f k (i+1) (match p.1 with|some x=>acc++[x]|none=>acc) p.2.1 p.2.2
noncomputable def inner(src:List (Option Nat))(τ:Sl):Sl:=src.map fun o=>o.bind fun i=>(τ[i]?).bind id
noncomputable def part(r:R)(τ:Sl)(st:Store):Option E→Option (Option Int×Store)
 |none=>some (none,st)
 |some e=>(r.ev τ st e).bind fun p=>match p.1 with
  |.int i=>some (some i,p.2)
  |_=>none
noncomputable def loopW(f:Sl→Store→Option (Bool×Store))(g:Sl→Store→Option (Out×Store)):Nat→Sl→Store→Option (Out×Store)
 |0,_,_=>none
 |k+1,τ,st=>(f τ st).bind fun b=>if b.1 then(g τ b.2).bind fun p=>match p.1 with
   |.nx τ'=>loopW f g k τ' p.2
   |.ct τ'=>loopW f g k τ' p.2
   |.bk τ'=>some (.nx τ',p.2)
   |.rt v=>some (.rt v,p.2)
  else some (.nx τ,b.2)
noncomputable def dinR(r:R)(τ:Sl)(st:Store)(neg:Bool)(a b:E):Option (D×Store):=
 (r.ev τ st a).bind fun p=>(r.ev τ p.2 b).bind fun q=>match q.1 with
  |.loc l=>(dicAt q.2 l).bind fun kvs=>if isKey p.1 then some (.bl ((dget kvs p.1).isSome != neg),q.2) else none
  |_=>none
noncomputable def ginR(r:R)(τ:Sl)(st:Store)(neg:Bool)(ks:List Str)(b:E):Option (D×Store):=
 (r.ev τ st b).bind fun p=>match p.1 with
  |.str z=>some (.bl (ks.contains z != neg),p.2)
  |_=>none
noncomputable def stepEv(r:R)(τ:Sl)(st:Store):E→Option (D×Store)
 |.var i=>match τ[i]? with
  |some (some d)=>some (d,st)
  |_=>none
 |.lit d=>some (d,st)
 |.glo _ d=>some (d,st)
 |.bin op a b=>(r.ev τ st a).bind fun p=>(r.ev τ p.2 b).bind fun q=>binop q.2 op p.1 q.1
 |.neg a=>(r.ev τ st a).bind fun p=>match p.1 with
  |.int i=>some (.int (-i),p.2)
  |_=>none
 |.not a=>(r.ev τ st a).bind fun p=>match p.1 with
  |.bl b=>some (.bl (!b),p.2)
  |_=>none
 |.cmp op a b=>(r.ev τ st a).bind fun p=>(r.ev τ p.2 b).bind fun q=>(cmpD q.2 op p.1 q.1).map fun k=>(.bl k,q.2)
 |.cmp2 op op' a b c=>(r.ev τ st a).bind fun p=>(r.ev τ p.2 b).bind fun q=>(cmpD q.2 op p.1 q.1).bind fun k=>
   if k then(r.ev τ q.2 c).bind fun u=>(cmpD u.2 op' q.1 u.1).map fun k'=>(.bl k',u.2) else some (.bl false,q.2)
 |.and a b=>(r.ev τ st a).bind fun p=>match p.1 with
  |.bl true=>r.ev τ p.2 b
  |.bl false=>some (.bl false,p.2)
  |_=>none
 |.or a b=>(r.ev τ st a).bind fun p=>match p.1 with
  |.bl false=>r.ev τ p.2 b
  |.bl true=>some (.bl true,p.2)
  |_=>none
 |.ite c a b=>(r.tst τ st c).bind fun p=>if p.1 then r.ev τ p.2 a else r.ev τ p.2 b
 |.tup es=>(evs (r.ev τ) es st).bind fun p=>if lim<p.1.length then none else some (.tup p.1,p.2)
 |.lst es=>(evs (r.ev τ) es st).bind fun p=>if lim<p.1.length then none else some (alloc p.2 (.lst true p.1))
 |.idx a b=>(r.ev τ st a).bind fun p=>(r.ev τ p.2 b).bind fun q=>(idxD q.2 p.1 q.1).map fun d=>(d,q.2)
 |.sli a lo hi=>(r.ev τ st a).bind fun p=>(part r τ p.2 lo).bind fun l=>(part r τ l.2 hi).bind fun h=>sliD h.2 p.1 l.1 h.1
 |.call f es=>(evs (r.ev τ) es st).bind fun p=>r.call f p.1 p.2
 |.bcall f es=>(evs (r.ev τ) es st).bind fun p=>bfun p.2 f p.1
 |.isi a ts _=>(r.ev τ st a).bind fun p=>(tyName p.2 p.1).map fun n=>(.bl (ts.any fun t=>tyIs t n),p.2)
 |.meth a m es=>(r.ev τ st a).bind fun p=>if mty p.2 m p.1 then(evs (r.ev τ) es p.2).bind fun q=>mfun q.2 m p.1 q.1 else none
 |.gc a=>(r.ev τ st a).map fun p=>gcD st p
 |.rng1 _=>none
 |.rng2 _ _=>none
 |.rng3 _ _ _=>none
 |.zip _ _=>none
 |.dic es=>(evs (r.ev τ) es (st++[.dic []])).bind fun p=>match dicAt p.2 st.length with
  |some []=>(pairUp p.1).bind fun kvs=>if kvs.length≤15 then some (.loc st.length,p.2.set st.length (.dic (dall kvs))) else none
  |_=>none
 |.didx a b=>(r.ev τ st a).bind fun p=>(r.ev τ p.2 b).bind fun q=>match p.1 with
  |.loc l=>(dicAt q.2 l).bind fun kvs=>if isKey q.1 then(dget kvs q.1).map fun d=>(d,q.2) else none
  |_=>none
 |.din neg a b=>dinR r τ st neg a b
 |.dgt a b=>(r.ev τ st a).bind fun p=>match p.1 with
  |.loc l=>(dicAt p.2 l).bind fun _=>(r.ev τ p.2 b).bind fun q=>(dicAt q.2 l).bind fun kvs=>if isKey q.1 then some ((dget kvs q.1).getD .non,q.2) else none
  |_=>none
 |.fmt a=>(r.ev τ st a).bind fun p=>(fmtD p.1).map fun d=>(d,p.2)
 |.fstr es=>(evs (r.ev τ) es st).bind fun p=>(catD p.1 Str.empty).map fun z=>(.str z,p.2)
 |.gidx _ ks ds b=>(r.ev τ st b).bind fun p=>match p.1 with
  |.str z=>((ks.zip ds).find? fun q=>q.1==z).map fun q=>(q.2,p.2)
  |_=>none
 |.gin neg _ ks b=>ginR r τ st neg ks b
 |.lenset a=>(r.ev τ st a).bind fun p=>(lensetD p.1).map fun d=>(d,p.2)
 |.cat a b=>(r.ev τ st a).bind fun p=>(r.ev τ p.2 b).bind fun q=>catT q.2 p.1 q.1
 |.comp t it test elt sr=>(src r τ st it).bind fun p=>
   (loopC p.1 (turnC r t test elt) (p.1.size p.2+1) 0 [] (inner sr τ) p.2).map fun q=>alloc q.2 (.lst true q.1)
noncomputable def stepTst(r:R)(τ:Sl)(st:Store):E→Option (Bool×Store)
 |.not a=>(r.tst τ st a).map fun p=>(!p.1,p.2)
 |.and a b=>(r.tst τ st a).bind fun p=>if p.1 then r.tst τ p.2 b else some (false,p.2)
 |.or a b=>(r.tst τ st a).bind fun p=>if p.1 then some (true,p.2) else r.tst τ p.2 b
 |.ite _ _ _=>none
 |.din neg a b=>(dinR r τ st neg a b).bind fun p=>(truth p.2 p.1).map fun k=>(k,p.2)
 |.gin neg _ ks b=>(ginR r τ st neg ks b).bind fun p=>(truth p.2 p.1).map fun k=>(k,p.2)
 |.cmp op a b=>(r.ev τ st a).bind fun p=>(r.ev τ p.2 b).bind fun q=>(cmpD q.2 op p.1 q.1).map fun k=>(k,q.2)
 |.cmp2 op op' a b c=>(r.ev τ st a).bind fun p=>(r.ev τ p.2 b).bind fun q=>(cmpD q.2 op p.1 q.1).bind fun k=>
   if k then(r.ev τ q.2 c).bind fun u=>(cmpD u.2 op' q.1 u.1).map fun k'=>(k',u.2) else some (false,q.2)
 |e=>(r.ev τ st e).bind fun p=>(truth p.2 p.1).map fun k=>(k,p.2)
noncomputable def stepEx(r:R)(τ:Sl)(st:Store):S→Option (Out×Store)
 |.set t e=>(r.ev τ st e).bind fun p=>(setT t p.1 τ).map fun τ'=>(.nx τ',p.2)
 |.setIx a i e=>(r.ev τ st e).bind fun p=>(r.ev τ p.2 a).bind fun q=>(r.ev τ q.2 i).bind fun u=>(setIxD u.2 q.1 u.1 p.1).map fun st'=>(.nx τ,st')
 |.dset a i e=>(r.ev τ st e).bind fun p=>(r.ev τ p.2 a).bind fun q=>(r.ev τ q.2 i).bind fun u=>match q.1 with
  |.loc l=>(dicAt u.2 l).bind fun kvs=>if isKey u.1&&decide (kvs.length<lim) then some (.nx τ,u.2.set l (.dic (dput kvs u.1 p.1))) else none
  |_=>none
 |.rais=>none
 |.expr e=>(r.ev τ st e).map fun p=>(.nx τ,p.2)
 |.ret e=>(r.ev τ st e).map fun p=>(.rt p.1,p.2)
 |.retN=>some (.rt .non,st)
 |.ite c a b=>(r.tst τ st c).bind fun p=>if p.1 then r.ex τ p.2 a else r.ex τ p.2 b
 |.forr t it body=>(src r τ st it).bind fun p=>
   loop p.1 (fun τ st d=>(setT t d τ).bind fun τ'=>r.ex τ' st body) (p.1.size p.2+1) 0 τ p.2
 |.whil c body=>loopW (fun τ st=>r.tst τ st c) (fun τ st=>r.ex τ st body) lim τ st
 |.aug i op e=>match τ[i]? with
  |some (some x)=>(r.ev τ st e).bind fun p=>(augD p.2 op x p.1).map fun z=>(.nx (τ.set i (some z)),p.2)
  |_=>none
 |.brk=>some (.bk τ,st)
 |.cnt=>some (.ct τ,st)
 |.pass=>some (.nx τ,st)
noncomputable def exs(f:Sl→Store→S→Option (Out×Store)):List S→Sl→Store→Option (Out×Store)
 |[],τ,st=>some (.nx τ,st)
 |s::ss,τ,st=>(f τ st s).bind fun p=>match p.1 with
  |.nx τ'=>exs f ss τ' p.2
  |o=>some (o,p.2)
noncomputable def stepCall(fns:List Fn)(r:R)(f:Nat)(ds:List D)(st:Store):Option (D×Store):=
 match fns[f]? with
 |some F=>if ds.length=F.np then(r.ex (ds.map some++List.replicate (F.nl - ds.length) none) st F.body).bind fun p=>match p.1 with
   |.rt d=>some (d,p.2)
   |.nx _=>some (.non,p.2)
   |_=>none
  else none
 |none=>none
noncomputable def step(c:Nat→List D→Store→Option (D×Store))(r:R):R:=⟨stepEv r,stepTst r,fun τ st ss=>exs (stepEx r) ss τ st,c⟩
noncomputable def runK(c:Nat→List D→Store→Option (D×Store)):Nat→R
 |0=>⟨fun _ _ _=>none,fun _ _ _=>none,fun _ _ _=>none,c⟩
 |k+1=>step c (runK c k)
open Classical in
noncomputable def lim1{α:Type}(f:Nat→Option α):Option α:=if h:∃ x,∃ n,f n=some x then some h.choose else none
noncomputable def RL(c:Nat→List D→Store→Option (D×Store)):R:=⟨fun τ st e=>lim1 fun n=>(runK c n).ev τ st e,fun τ st e=>lim1 fun n=>(runK c n).tst τ st e,fun τ st e=>lim1 fun n=>(runK c n).ex τ st e,c⟩
noncomputable def callD(fns:List Fn):Nat→Nat→List D→Store→Option (D×Store)
 |0=>fun _ _ _=>none
 |d+1=>stepCall fns (RL (callD fns d))
noncomputable abbrev rn(fns:List Fn)(d n:Nat):R:=runK (callD fns d) n
noncomputable abbrev Lv(fns:List Fn)(d:Nat):R:=RL (callD fns d)
theorem lim1_is{α:Type}{f:Nat→Option α}{x:α}(h:lim1 f=some x):∃ n,f n=some x:=by
 unfold lim1 at h
 split at h
 ·rename_i hx
  obtain⟨n,hn⟩:=hx.choose_spec
  exact⟨n,by rw[hn]; exact h⟩
 ·cases h
theorem runK_call(c:Nat→List D→Store→Option (D×Store)):∀ n,(runK c n).call=c
 |0=>rfl
 |_+1=>rfl
end M
end
section
namespace M
open PySem (Str)
theorem exs_split:∀ (a:List S){b:List S}{f:Sl→Store→S→Option (Out×Store)}{τ τ':Sl}{s s':Store},exs f a τ s=some (.nx τ',s')→exs f (a++b) τ s=exs f b τ' s'
 |[],b,f,τ,τ',s,s',h=>by cases h; rfl
 |x::a,b,f,τ,τ',s,s',h=>by
  simp only[exs,List.cons_append]at h ⊢
  cases q:f τ s x with
  |none=>rw[q]at h; cases h
  |some p=>
   rw[q]at h
   simp only[Option.bind_some]at h ⊢
   cases hp:p.1 with
   |nx τ2=>rw[hp]at h; simp only at h ⊢; exact exs_split a h
   |rt d=>rw[hp]at h; cases h
   |bk d=>rw[hp]at h; cases h
   |ct d=>rw[hp]at h; cases h
theorem exs_cons{x:S}{b:List S}{f:Sl→Store→S→Option (Out×Store)}{τ τ':Sl}{s s':Store}(h:f τ s x=some (.nx τ',s')):exs f (x::b) τ s=exs f b τ' s':=by
 simp only[exs,h,Option.bind_some]
theorem exs_ret{x:S}{b:List S}{f:Sl→Store→S→Option (Out×Store)}{τ:Sl}{s s':Store}{d:D}(h:f τ s x=some (.rt d,s')):exs f (x::b) τ s=some (.rt d,s'):=by
 simp only[exs,h,Option.bind_some]
theorem eqT_bb(a b:Bool):eqT (.bl a) (.bl b)=(a==b):=by rw[eqT]
theorem eqT_ii(a b:Int):eqT (.int a) (.int b)=(a==b):=by rw[eqT]
theorem eqT_ss(a b:Str):eqT (.str a) (.str b)=(a==b):=by rw[eqT]
theorem eqT_nn:eqT .non .non=true:=by rw[eqT]
theorem flat_b(n:Nat)(a:Bool):flat n (.bl a)=true:=by cases n<;>rfl
theorem flat_i(n:Nat)(a:Int):flat n (.int a)=true:=by cases n<;>rfl
theorem flat_s(n:Nat)(a:Str):flat n (.str a)=true:=by cases n<;>rfl
theorem flat_n(n:Nat):flat n .non=true:=by cases n<;>rfl
theorem eqD_bb(st:Store)(a b:Bool):eqD st (.bl a) (.bl b)=some (a==b):=by simp[eqD,seqAt,flat_b,eqT_bb]
theorem eqD_ii(st:Store)(a b:Int):eqD st (.int a) (.int b)=some (a==b):=by simp[eqD,seqAt,flat_i,eqT_ii]
theorem eqD_ss(st:Store)(a b:Str):eqD st (.str a) (.str b)=some (a==b):=by simp[eqD,seqAt,flat_s,eqT_ss]
theorem eqD_nn(st:Store):eqD st .non .non=some true:=by simp[eqD,seqAt,flat_n,eqT_nn]
theorem loop_rng'{f:Sl→Store→D→Option (Out×Store)}{lo:Int}{n:Nat}(P:Nat→Sl→Store→Prop)(hs:∀ i τ st,i<n→P i τ st→∃ τ' st',f τ st (.int (lo+i))=some (.nx τ',st')∧P (i+1) τ' st'):
  ∀ (k i:Nat) (τ:Sl) (st:Store),i+k=n→P i τ st→∃ τ' st',loop (.rng lo n) f (k+1) i τ st=some (.nx τ',st')∧P n τ' st'
 |0,i,τ,st,h,p=>by
  have:i=n:=by omega
  subst this
  exact⟨τ,st,by simp[loop,Src.at],p⟩
 |k+1,i,τ,st,h,p=>by
  have hi:i<n:=by omega
  obtain⟨τ',st',e,q⟩:=hs i τ st hi p
  obtain⟨τ2,st2,e2,q2⟩:=loop_rng' P hs k (i+1) τ' st' (by omega) q
  refine⟨τ2,st2,?_,q2⟩
  rw[loop]
  simp only[Src.at,hi,if_true,Option.bind_some,e]
  exact e2
theorem loop_rng{f:Sl→Store→D→Option (Out×Store)}{lo:Int}{n:Nat}{τ:Sl}{st:Store}(P:Nat→Sl→Store→Prop)(h0:P 0 τ st)(hs:∀ i τ st,i<n→P i τ st→∃ τ' st',f τ st (.int (lo+i))=some (.nx τ',st')∧P (i+1) τ' st'):
  ∃ τ' st',loop (.rng lo n) f (n+1) 0 τ st=some (.nx τ',st')∧P n τ' st':=loop_rng' P hs n 0 τ st (by omega) h0
theorem wlistAt_new(st:Store)(ds:List D):wlistAt (st++[.lst true ds]) st.length=some ds:=by simp[wlistAt]
theorem set_new(st:Store)(c c':Cell):(st++[c]).set st.length c'=st++[c']:=by simp
end M
end
section
namespace M
open PySem (Str)
def Co{α:Type}(a:Option α)(b:Nat→Option α):Prop:=∀ x,a=some x→∃ n,∀ m,n≤m→b m=some x
theorem Co.refl{α:Type}(a:Option α):Co a fun _=>a:=fun _ h=>⟨0,fun _ _=>h⟩
theorem Co.none{α:Type}(b:Nat→Option α):Co Option.none b:=fun _ h=>by cases h
theorem Co.bind{α β:Type}{f:Option α}{f':Nat→Option α}{g:α→Option β}{g':Nat→α→Option β}(hf:Co f f')(hg:∀ a,Co (g a) fun m=>g' m a):Co (f.bind g) fun m=>(f' m).bind (g' m):=fun x h=>by
 cases e:f with
 |none=>rw[e]at h; cases h
 |some a=>
  rw[e]at h
  obtain⟨n,hn⟩:=hf a e
  obtain⟨k,hk⟩:=hg a x h
  refine⟨max n k,fun m hm=>?_⟩
  simp only
  rw[hn m (by omega)]
  exact hk m (by omega)
theorem Co.map{α β:Type}{f:Option α}{f':Nat→Option α}(g:α→β)(hf:Co f f'):Co (f.map g) fun m=>(f' m).map g:=fun x h=>by
 cases e:f with
 |none=>rw[e]at h; cases h
 |some a=>
  rw[e]at h
  obtain⟨n,hn⟩:=hf a e
  refine⟨n,fun m hm=>?_⟩
  simp only
  rw[hn m hm]
  exact h
theorem Co.ite{α:Type}{c:Prop} [Decidable c]{a b:Option α}{a' b':Nat→Option α}(ha:Co a a') (hb:Co b b'):Co (if c then a else b) fun m=>if c then a' m else b' m:=by
 by_cases h:c
 ·simp only[if_pos h]; exact ha
 ·simp only[if_neg h]; exact hb
structure Le (r:R) (r':Nat→R):Prop where
 ev:∀ τ st e,Co (r.ev τ st e) fun m=>(r' m).ev τ st e
 tst:∀ τ st e,Co (r.tst τ st e) fun m=>(r' m).tst τ st e
 ex:∀ τ st e,Co (r.ex τ st e) fun m=>(r' m).ex τ st e
 call:∀ f ds st,Co (r.call f ds st) fun m=>(r' m).call f ds st
theorem evs_mono{f:Store→E→Option (D×Store)}{f':Nat→Store→E→Option (D×Store)}(h:∀ st e,Co (f st e) fun m=>f' m st e):∀ (es:List E) (st:Store),Co (evs f es st) fun m=>evs (f' m) es st
 |[],st=>.refl _
 |e::es,st=>(h st e).bind fun p=>(evs_mono h es p.2).bind fun q=>.refl _
theorem loop_mono{it:Src}{f:Sl→Store→D→Option (Out×Store)}{f':Nat→Sl→Store→D→Option (Out×Store)}(h:∀ τ st d,Co (f τ st d) fun m=>f' m τ st d):∀ (k i:Nat) (τ:Sl) (st:Store),Co (loop it f k i τ st) fun m=>loop it (f' m) k i τ st
 |0,_,_,_=>.refl _
 |k+1,i,τ,st=>by
  unfold loop
  refine(Co.refl _).bind fun o=>?_
  cases o with
  |none=>exact .refl _
  |some d=>
   refine(h τ st d).bind fun p=>?_
   cases hp:p.1 with
   |nx τ'=>exact loop_mono h k _ _ _
   |ct τ'=>exact loop_mono h k _ _ _
   |bk τ'=>exact .refl _
   |rt v=>exact .refl _
theorem loopC_mono{it:Src}{f:Sl→Store→D→Option (Option D×Sl×Store)}{f':Nat→Sl→Store→D→Option (Option D×Sl×Store)}(h:∀ τ st d,Co (f τ st d) fun m=>f' m τ st d):∀ (k i:Nat) (acc:List D) (τ:Sl) (st:Store),Co (loopC it f k i acc τ st) fun m=>loopC it (f' m) k i acc τ st
 |0,_,_,_,_=>.refl _
 |k+1,i,acc,τ,st=>by
  unfold loopC
  refine(Co.refl _).bind fun o=>?_
  cases o with
  |none=>exact .refl _
  |some d=>exact Co.ite (.refl _) ((h τ st d).bind fun p=>loopC_mono h k _ _ _ _)
theorem loopW_mono{f:Sl→Store→Option (Bool×Store)}{f':Nat→Sl→Store→Option (Bool×Store)}{g:Sl→Store→Option (Out×Store)}{g':Nat→Sl→Store→Option (Out×Store)}(h:∀ τ st,Co (f τ st) fun m=>f' m τ st)(h':∀ τ st,Co (g τ st) fun m=>g' m τ st):∀ (k:Nat) (τ:Sl) (st:Store),Co (loopW f g k τ st) fun m=>loopW (f' m) (g' m) k τ st
 |0,_,_=>.refl _
 |k+1,τ,st=>by
  unfold loopW
  refine(h τ st).bind fun b=>Co.ite ((h' τ _).bind fun p=>?_) (.refl _)
  cases hp:p.1 with
  |nx τ'=>exact loopW_mono h h' k _ _
  |ct τ'=>exact loopW_mono h h' k _ _
  |bk τ'=>exact .refl _
  |rt v=>exact .refl _
theorem exs_mono{f:Sl→Store→S→Option (Out×Store)}{f':Nat→Sl→Store→S→Option (Out×Store)}(h:∀ τ st s,Co (f τ st s) fun m=>f' m τ st s):∀ (ss:List S) (τ:Sl) (st:Store),Co (exs f ss τ st) fun m=>exs (f' m) ss τ st
 |[],_,_=>.refl _
 |s::ss,τ,st=>by
  unfold exs
  refine(h τ st s).bind fun p=>?_
  cases hp:p.1 with
  |nx τ'=>exact exs_mono h ss _ _
  |_=>exact .refl _
section
variable {r:R}{r':Nat→R}(h:Le r r')
include h
theorem src_mono(τ:Sl)(st:Store)(e:E):Co (src r τ st e) fun m=>src (r' m) τ st e:=by
 cases e with
 |rng1 a=>exact(h.ev τ st a).bind fun p=>.refl _
 |rng2 a b=>exact(h.ev τ st a).bind fun p=>(h.ev τ _ b).bind fun q=>.refl _
 |rng3 a b c=>exact(h.ev τ st a).bind fun p=>(h.ev τ _ b).bind fun q=>(h.ev τ _ c).bind fun u=>.refl _
 |zip a b=>exact(h.ev τ st a).bind fun p=>(h.ev τ _ b).bind fun q=>.refl _
 |_=>exact(h.ev τ st _).bind fun p=>.refl _
theorem part_mono(τ:Sl)(st:Store)(e:Option E):Co (part r τ st e) fun m=>part (r' m) τ st e:=by
 cases e with
 |none=>exact .refl _
 |some e=>exact(h.ev τ st e).bind fun p=>.refl _
theorem turnC_mono(t:T)(test:Option E)(elt:E)(τ:Sl)(st:Store)(d:D):Co (turnC r t test elt τ st d) fun m=>turnC (r' m) t test elt τ st d:=by
 unfold turnC
 refine(Co.refl _).bind fun τ'=>?_
 cases test with
 |none=>exact(h.ev _ _ _).map _
 |some c=>exact(h.tst _ _ _).bind fun b=>Co.ite ((h.ev _ _ _).map _) (.refl _)
theorem dinR_mono(τ:Sl)(st:Store)(neg:Bool)(a b:E):Co (dinR r τ st neg a b) fun m=>dinR (r' m) τ st neg a b:=(h.ev τ st a).bind fun p=>(h.ev τ _ b).bind fun q=>.refl _
theorem ginR_mono(τ:Sl)(st:Store)(neg:Bool)(ks:List PySem.Str)(b:E):Co (ginR r τ st neg ks b) fun m=>ginR (r' m) τ st neg ks b:=(h.ev τ st b).bind fun p=>.refl _
theorem stepEv_mono(τ:Sl)(st:Store)(e:E):Co (stepEv r τ st e) fun m=>stepEv (r' m) τ st e:=by
 cases e with
 |var i=>exact .refl _
 |lit d=>exact .refl _
 |glo x d=>exact .refl _
 |bin op a b=>exact(h.ev τ st a).bind fun p=>(h.ev τ _ b).bind fun q=>.refl _
 |neg a=>exact(h.ev τ st a).bind fun p=>.refl _
 |not a=>exact(h.ev τ st a).bind fun p=>.refl _
 |cmp op a b=>exact(h.ev τ st a).bind fun p=>(h.ev τ _ b).bind fun q=>.refl _
 |cmp2 op op' a b c=>exact(h.ev τ st a).bind fun p=>(h.ev τ _ b).bind fun q=>(Co.refl _).bind fun k=>Co.ite ((h.ev τ _ c).bind fun u=>.refl _) (.refl _)
 |and a b=>
  refine(h.ev τ st a).bind fun p=>?_
  obtain⟨d,s⟩:=p
  cases d with
  |bl k=>cases k with
   |true=>exact h.ev τ _ b
   |false=>exact .refl _
  |_=>exact .refl _
 |or a b=>
  refine(h.ev τ st a).bind fun p=>?_
  obtain⟨d,s⟩:=p
  cases d with
  |bl k=>cases k with
   |false=>exact h.ev τ _ b
   |true=>exact .refl _
  |_=>exact .refl _
 |ite c a b=>exact(h.tst τ st c).bind fun p=>Co.ite (h.ev τ _ a) (h.ev τ _ b)
 |tup es=>exact(evs_mono (h.ev τ) es st).bind fun p=>.refl _
 |lst es=>exact(evs_mono (h.ev τ) es st).bind fun p=>.refl _
 |idx a b=>exact(h.ev τ st a).bind fun p=>(h.ev τ _ b).bind fun q=>.refl _
 |sli a lo hi=>exact(h.ev τ st a).bind fun p=>(part_mono h τ _ lo).bind fun l=>(part_mono h τ _ hi).bind fun u=>.refl _
 |call f es=>exact(evs_mono (h.ev τ) es st).bind fun p=>h.call f _ _
 |bcall f es=>exact(evs_mono (h.ev τ) es st).bind fun p=>.refl _
 |isi a ts m=>exact(h.ev τ st a).bind fun p=>.refl _
 |lenset a=>exact(h.ev τ st a).bind fun p=>.refl _
 |cat a b=>exact(h.ev τ st a).bind fun p=>(h.ev τ _ b).bind fun q=>.refl _
 |gc a=>exact(h.ev τ st a).map _
 |meth a m es=>exact(h.ev τ st a).bind fun p=>Co.ite ((evs_mono (h.ev τ) es _).bind fun q=>.refl _) (.refl _)
 |rng1 a=>exact .refl _
 |rng2 a b=>exact .refl _
 |rng3 a b c=>exact .refl _
 |zip a b=>exact .refl _
 |dic es=>exact(evs_mono (h.ev τ) es _).bind fun p=>.refl _
 |didx a b=>exact(h.ev τ st a).bind fun p=>(h.ev τ _ b).bind fun q=>.refl _
 |din neg a b=>exact dinR_mono h τ st neg a b
 |dgt a b=>
  refine(h.ev τ st a).bind fun p=>?_
  obtain⟨d,s⟩:=p
  cases d with
  |loc l=>exact(Co.refl _).bind fun _=>(h.ev τ _ b).bind fun q=>.refl _
  |_=>exact .refl _
 |fmt a=>exact(h.ev τ st a).bind fun p=>.refl _
 |fstr es=>exact(evs_mono (h.ev τ) es st).bind fun p=>.refl _
 |gidx x ks ds b=>exact(h.ev τ st b).bind fun p=>.refl _
 |gin neg x ks b=>exact ginR_mono h τ st neg ks b
 |comp t it test elt sr=>exact(src_mono h τ st it).bind fun p=>(loopC_mono (turnC_mono h t test elt) _ _ _ _ _).map _
theorem stepTst_mono(τ:Sl)(st:Store)(e:E):Co (stepTst r τ st e) fun m=>stepTst (r' m) τ st e:=by
 cases e with
 |not a=>exact(h.tst τ st a).map _
 |and a b=>exact(h.tst τ st a).bind fun p=>Co.ite (h.tst τ _ b) (.refl _)
 |or a b=>exact(h.tst τ st a).bind fun p=>Co.ite (.refl _) (h.tst τ _ b)
 |ite _ _ _=>exact .refl _
 |din neg a b=>exact(dinR_mono h τ st neg a b).bind fun p=>.refl _
 |gin neg x ks b=>exact(ginR_mono h τ st neg ks b).bind fun p=>.refl _
 |cmp op a b=>exact(h.ev τ st a).bind fun p=>(h.ev τ _ b).bind fun q=>.refl _
 |cmp2 op op' a b c=>exact(h.ev τ st a).bind fun p=>(h.ev τ _ b).bind fun q=>(Co.refl _).bind fun k=>Co.ite ((h.ev τ _ c).bind fun u=>.refl _) (.refl _)
 |_=>exact(h.ev τ st _).bind fun p=>.refl _
theorem stepEx_mono(τ:Sl)(st:Store)(s:S):Co (stepEx r τ st s) fun m=>stepEx (r' m) τ st s:=by
 cases s with
 |set t e=>exact(h.ev τ st e).bind fun p=>.refl _
 |setIx a i e=>exact(h.ev τ st e).bind fun p=>(h.ev τ _ a).bind fun q=>(h.ev τ _ i).bind fun u=>.refl _
 |dset a i e=>exact(h.ev τ st e).bind fun p=>(h.ev τ _ a).bind fun q=>(h.ev τ _ i).bind fun u=>.refl _
 |rais=>exact .refl _
 |expr e=>exact(h.ev τ st e).map _
 |ret e=>exact(h.ev τ st e).map _
 |retN=>exact .refl _
 |ite c a b=>exact(h.tst τ st c).bind fun p=>Co.ite (h.ex τ _ a) (h.ex τ _ b)
 |forr t it body=>exact(src_mono h τ st it).bind fun p=>loop_mono (fun τ st d=>(Co.refl _).bind fun τ'=>h.ex τ' st body) _ _ _ _
 |whil c body=>exact loopW_mono (fun τ st=>h.tst τ st c) (fun τ st=>h.ex τ st body) _ _ _
 |aug i op e=>
  simp only[stepEx]
  cases h1:τ[i]? with
  |none=>exact .none _
  |some o=>
   cases o with
   |none=>exact .none _
   |some x=>exact(h.ev τ st e).bind fun p=>.refl _
 |brk=>exact .refl _
 |cnt=>exact .refl _
 |pass=>exact .refl _
theorem step_mono(c:Nat→List D→Store→Option (D×Store)):Le (step c r) fun m=>step c (r' m):=
 ⟨stepEv_mono h,stepTst_mono h,fun τ st ss=>exs_mono (stepEx_mono h) ss τ st,fun f ds st=>.refl _⟩
end
theorem run_succ(c:Nat→List D→Store→Option (D×Store)):∀ n,Le (runK c n) fun _=>runK c (n+1)
 |0=>⟨fun _ _ _=>.none _,fun _ _ _=>.none _,fun _ _ _=>.none _,fun _ _ _=>.refl _⟩
 |n+1=>step_mono (run_succ c n) c
section
variable {c:Nat→List D→Store→Option (D×Store)}{n N:Nat}
theorem ex_up{τ:Sl}{st:Store}{e:List S}{x:Out×Store}(h:(runK c n).ex τ st e=some x)(hN:n≤N):(runK c N).ex τ st e=some x:=by
 induction hN with
 |refl=>exact h
 |step _ ih=>obtain⟨k,hk⟩:=(run_succ c _).ex τ st e x ih; exact hk k (Nat.le_refl _)
end
theorem lim1_of{α:Type}{f:Nat→Option α}{n:Nat}{x:α}(up:∀ n N x,f n=some x→n≤N→f N=some x)(h:f n=some x):lim1 f=some x:=by
 have hx:∃ x,∃ n,f n=some x:=⟨x,n,h⟩
 unfold lim1
 rw[dif_pos hx]
 obtain⟨k,hk⟩:=hx.choose_spec
 have e1:=up _ (max n k) _ h (by omega)
 have e2:=up _ (max n k) _ hk (by omega)
 rw[e1]at e2
 exact e2.symm
section
variable {fns:List Fn}{d:Nat}{τ:Sl}{st:Store}
theorem call_of{f:Nat}{F:Fn}{ds:List D}{st':Store}{v:D}(n:Nat)(hf:fns[f]?=some F)(hl:ds.length=F.np)(hτ:ds.map some++List.replicate (F.nl - ds.length) none=τ)
  (h:exs (stepEx (rn fns d n)) F.body τ st=some (.rt v,st')):callD fns (d+1) f ds st=some (v,st'):=by
 show stepCall fns (RL (callD fns d)) f ds st=_
 unfold stepCall
 rw[hf]
 dsimp only
 have e:(RL (callD fns d)).ex τ st F.body=some (.rt v,st'):=lim1_of (n:=n+1) (fun _ _ _ h k=>ex_up h k) h
 rw[if_pos hl,hτ,e]
 rfl
theorem ev_k{c:Nat→List D→Store→Option (D×Store)}{n:Nat}(e:E):(runK c (n+1)).ev τ st e=stepEv (runK c n) τ st e:=rfl
theorem tst_k{c:Nat→List D→Store→Option (D×Store)}{n:Nat}(e:E):(runK c (n+1)).tst τ st e=stepTst (runK c n) τ st e:=rfl
theorem ex_k{c:Nat→List D→Store→Option (D×Store)}{n:Nat}(e:List S):(runK c (n+1)).ex τ st e=exs (stepEx (runK c n)) e τ st:=rfl
theorem call_k{c:Nat→List D→Store→Option (D×Store)}{n:Nat}(f:Nat)(ds:List D):(runK c (n+1)).call f ds st=c f ds st:=rfl
end
end M
end
section
namespace M
open PySem (Str)
section
variable {r:R}{s:Src}{S:Store}{rest:Sl}{elt:E}{ds:List D}
theorem loopC_map{es:List D}(hat:∀ i,s.at S i=some ds[i]?)(hlen:es.length=ds.length)(hlim:ds.length<lim)(he:∀ (i:Nat) (d e:D),ds[i]?=some d→es[i]?=some e→r.ev (some d::rest) S elt=some (e,S)):
  ∀ (k i:Nat) (o:Option D),i+k=ds.length→loopC s (turnC r (.var 0) none elt) (k+1) i (es.take i) (o::rest) S=some (es,S)
 |0,i,o,h=>by
  have e:i=ds.length:=by omega
  subst e
  have h1:es.take ds.length=es:=List.take_of_length_le (by omega)
  rw[loopC,hat,h1]
  simp only[Option.bind_some,List.getElem?_eq_none (Nat.le_refl _)]
  rw[if_neg (by omega)]
 |k+1,i,o,h=>by
  have hi:i<ds.length:=by omega
  have h1:ds[i]?=some ds[i]:=by simp
  have h2:es[i]?=some (es[i]'(by omega)):=by simp
  have h3:=he i _ _ h1 h2
  rw[loopC,hat,h1]
  simp only[Option.bind_some]
  rw[if_neg (by rw[List.length_take]; omega)]
  have e1:turnC r (.var 0) none elt (o::rest) S ds[i]=some (some (es[i]'(by omega)),some ds[i]::rest,S):=by
   unfold turnC
   simp only[setT,List.length_cons,Nat.zero_lt_succ,if_true,List.set_cons_zero,Option.bind_some,h3,Option.map_some]
  rw[e1]
  simp only[Option.bind_some]
  rw[show es.take i++[es[i]'(by omega)]=es.take (i+1) by rw[List.take_succ_eq_append_getElem (by omega)]]
  exact loopC_map hat hlen hlim he k (i+1) _ (by omega)
end
theorem comp_map{r:R}{τ:Sl}{S S':Store}{it elt:E}{sr:List (Option Nat)}{s:Src}{rest:Sl}{ds es:List D}(hsrc:src r τ S it=some (s,S'))(hat:∀ i,s.at S' i=some ds[i]?)(hsz:s.size S'=ds.length)(hin:inner sr τ=none::rest)(hlen:es.length=ds.length)(hlim:ds.length<lim)
  (he:∀ (i:Nat) (d e:D),ds[i]?=some d→es[i]?=some e→r.ev (some d::rest) S' elt=some (e,S')):stepEv r τ S (.comp (.var 0) it none elt sr)=some (.loc S'.length,S'++[.lst true es]):=by
 have h:=loopC_map (r:=r) (s:=s) (S:=S') (rest:=rest) (elt:=elt) hat hlen hlim he ds.length 0 none (by omega)
 show((src r τ S it).bind fun p=>(loopC p.1 (turnC r (.var 0) none elt) (p.1.size p.2+1) 0 [] (inner sr τ) p.2).map fun q=>alloc q.2 (.lst true q.1))=_
 rw[hsrc]
 simp only[Option.bind_some,hsz,hin]
 rw[show([]:List D)=es.take 0 by simp,h]
 rfl
theorem at_rng{S:Store}(lo:Int)(n:Nat)(i:Nat):(Src.rng lo n).at S i=some ((List.range n).map fun(j:Nat)=>D.int (lo+j))[i]?:=by
 simp only[Src.at,List.getElem?_map]
 by_cases h:i<n
 ·rw[if_pos h,List.getElem?_range h]; rfl
 ·rw[if_neg h,List.getElem?_eq_none (by simpa using h)]; rfl
end M
end
section
namespace M
open PySem (Str)
section
variable {st r:Store}{d:D}{ds:List D}
theorem gc_app(h:noLoc d=true):gcD st (d,st++r)=(d,st):=by
 unfold gcD
 rw[if_pos (by simp),if_pos h]
theorem gc_same(h:noLoc d=true):gcD st (d,st)=(d,st):=by
 have:=gc_app (st:=st) (r:=[]) h
 rwa [List.append_nil]at this
theorem noLoc_tup:noLoc (.tup ds)=noLocs ds:=by rw[noLoc]
theorem noLoc_lst:noLoc (.lst ds)=noLocs ds:=by rw[noLoc]
theorem noLocs_cons:noLocs (d::ds)=(noLoc d&&noLocs ds):=rfl
theorem noLocs_all:∀ {ds:List D},noLocs ds=ds.all noLoc
 |[]=>rfl
 |d::ds=>by rw[noLocs_cons,List.all_cons,noLocs_all]
theorem noLocs_of(h:∀ d∈ds,noLoc d=true):noLocs ds=true:=by rw[noLocs_all,List.all_eq_true]; exact h
theorem noLocs_map{α:Type}{xs:List α}{g:α→D}(h:∀ x∈xs,noLoc (g x)=true):noLocs (xs.map g)=true:=noLocs_of fun d hd=>by
 obtain⟨x,hx,rfl⟩:=List.mem_map.mp hd
 exact h x hx
theorem gc_new(h:noLocs ds=true):gcD st (.loc st.length,st++[.lst true ds])=(.lst ds,st):=by
 unfold gcD
 rw[if_pos (by simp),if_neg (by simp[noLoc])]
 simp[h]
end
theorem stepEx_ite_t{r:R}{τ:Sl}{st st':Store}{c:E}{a b:List S}(h:r.tst τ st c=some (true,st')):stepEx r τ st (.ite c a b)=r.ex τ st' a:=by
 show(r.tst τ st c).bind _=_
 rw[h]; rfl
theorem stepEx_ite_f{r:R}{τ:Sl}{st st':Store}{c:E}{a b:List S}(h:r.tst τ st c=some (false,st')):stepEx r τ st (.ite c a b)=r.ex τ st' b:=by
 show(r.tst τ st c).bind _=_
 rw[h]; rfl
noncomputable def cDraw:List S:=[
 .set (.var 4) (.lit (.int 0)),
 .set (.var 5) (.lit (.int 1)),
 .ite (.cmp .Gt (.bcall .len [(.var 0)]) (.lit (.int 0))) [.set (.var 4) (.idx (.var 0) (.bin .Mod (.var 1) (.bcall .len [(.var 0)]))),.set (.var 5) (.bin .FloorDiv (.var 1) (.bcall .len [(.var 0)]))] [],
 .set (.var 6) (.var 4),
 .forr (.var 7) (.rng1 (.var 2)) [.set (.var 6) (.bin .FloorDiv (.var 6) (.bin .Pow (.lit (.int 10)) (.lit (.int 10))))],
 .ite (.and (.cmp .Eq (.var 5) (.lit (.int 0))) (.and (.cmp .GtE (.var 4) (.bin .Pow (.lit (.int 10)) (.lit (.int 18)))) (.cmp .Gt (.var 6) (.lit (.int 0))))) [.ret (.bin .Mod (.bin .Mod (.var 6) (.bin .Pow (.lit (.int 10)) (.lit (.int 10)))) (.var 3))] [],
 .set (.var 8) (.bin .Mod (.bin .Add (.bin .Add (.bin .Add (.bin .Mult (.var 4) (.lit (.int 7919))) (.bin .Mult (.var 1) (.lit (.int 104729)))) (.bin .Mult (.var 2) (.lit (.int 1299709)))) (.lit (.int 31))) (.lit (.int 1000000007))),
 .set (.var 9) (.bin .Mod (.bin .Add (.bin .Mult (.var 8) (.lit (.int 48271))) (.bin .FloorDiv (.var 4) (.lit (.int 1009)))) (.lit (.int 998244353))),
 .set (.var 9) (.bin .Mod (.bin .Add (.bin .Mult (.var 9) (.bin .Add (.bin .Mod (.var 8) (.lit (.int 9973))) (.lit (.int 1)))) (.var 2)) (.lit (.int 1000000009))),
 .ret (.bin .Mod (.bin .Mod (.bin .Add (.bin .Add (.bin .Mult (.var 8) (.lit (.int 69621))) (.bin .Mult (.var 9) (.lit (.int 40692)))) (.bin .FloorDiv (.var 9) (.lit (.int 1013)))) (.lit (.int 2147483647))) (.var 3))]
noncomputable def fDraw:Fn:=⟨4,10,cDraw⟩
theorem mulOk_r{a b:Int}(h1:-(2 ^ 64)<b)(h2:b<2 ^ 64):mulOk a b=true:=by unfold mulOk; simp; omega
noncomputable def drawC(ns:List Int)(k:Int):Int×Int:=if ns=[] then(0,1) else(ns.getD (k % (ns.length:Int)).toNat 0,k / ns.length)
noncomputable def iterD:Nat→Int→Int
 |0,c=>c
 |n+1,c=>iterD n c / 10000000000
noncomputable def drawF(c k j many:Int):Int:=(fun one=>(fun two=>(fun two'=>(one*69621+two'*40692+two' / 1013) % 2147483647 % many) ((two*(one % 9973+1)+j) % 1000000009)) ((one*48271+c / 1009) % 998244353)) ((c*7919+k*104729+j*1299709+31) % 1000000007)
noncomputable def drawV(ns:List Int)(k j many:Int):Int:=
 if (drawC ns k).2=0∧1000000000000000000≤(drawC ns k).1∧0<iterD j.toNat (drawC ns k).1 then iterD j.toNat (drawC ns k).1 % 10000000000 % many else drawF (drawC ns k).1 k j many
theorem drawV_lo(ns:List Int)(k j:Int){many:Int}(h:0<many):0≤drawV ns k j many:=by
 unfold drawV
 split
 ·exact Int.emod_nonneg _ (by omega)
 ·exact Int.emod_nonneg _ (by omega)
theorem drawV_hi(ns:List Int)(k j:Int){many:Int}(h:0<many):drawV ns k j many<many:=by
 unfold drawV
 split
 ·exact Int.emod_lt_of_pos _ h
 ·exact Int.emod_lt_of_pos _ h
section
variable {c:Nat→List D→Store→Option (D×Store)}{n:Nat}{τ:Sl}{st:Store}
theorem evB{op:PySem.Operator}{A B:E}{a b r:D}(ha:(runK c n).ev τ st A=some (a,st))(hb:(runK c n).ev τ st B=some (b,st))(hr:binop st op a b=some (r,st)):(runK c (n+1)).ev τ st (.bin op A B)=some (r,st):=by
 rw[ev_k]
 simp only[stepEv,ha,hb,Option.bind_some,hr]
theorem evV{i:Nat}{d:D}(h:τ[i]?=some (some d)):(runK c (n+1)).ev τ st (.var i)=some (d,st):=by
 rw[ev_k]
 simp only[stepEv,h]
theorem evX{a b:E}{x y r:D}(ha:(runK c n).ev τ st a=some (x,st))(hb:(runK c n).ev τ st b=some (y,st))(h:idxD st x y=some r):(runK c (n+1)).ev τ st (.idx a b)=some (r,st):=by
 rw[ev_k]
 simp only[stepEv,ha,hb,Option.bind_some,h,Option.map_some]
theorem stS{τ':Sl}{i:Nat}{e:E}{d:D}(he:(runK c n).ev τ st e=some (d,st))(ht:setT (.var i) d τ=some τ'):stepEx (runK c n) τ st (.set (.var i) e)=some (.nx τ',st):=by
 simp only[stepEx,he,Option.bind_some,ht,Option.map_some]
theorem stR{e:E}{d:D}(he:(runK c n).ev τ st e=some (d,st)):stepEx (runK c n) τ st (.ret e)=some (.rt d,st):=by
 simp only[stepEx,he,Option.map_some]
theorem tCmp{op:PySem.CmpOp}{a b:E}{x y:D}{k:Bool}(ha:(runK c n).ev τ st a=some (x,st))(hb:(runK c n).ev τ st b=some (y,st))(h:cmpD st op x y=some k):(runK c (n+1)).tst τ st (.cmp op a b)=some (k,st):=by
 rw[tst_k]
 simp only[stepTst,ha,hb,Option.bind_some,h,Option.map_some]
theorem tAnd{a b:E}{x y:Bool}(ha:(runK c n).tst τ st a=some (x,st))(hb:(runK c n).tst τ st b=some (y,st)):(runK c (n+1)).tst τ st (.and a b)=some (x&&y,st):=by
 rw[tst_k]
 simp only[stepTst,ha,Option.bind_some]
 cases x with
 |true=>rw[if_pos rfl,hb]; rfl
 |false=>rfl
end
theorem bMu(S:Store)(a:Int){b:Int}(h0:-(2 ^ 64)<b)(h1:b<2 ^ 64):binop S .Mult (.int a) (.int b)=some (.int (a*b),S):=by
 simp only[binop]
 rw[if_pos (mulOk_r h0 h1)]
theorem bMo(S:Store)(a:Int){b:Int}(h:0<b):binop S .Mod (.int a) (.int b)=some (.int (a % b),S):=by
 simp only[binop]
 rw[if_pos h]
theorem bDi(S:Store)(a:Int){b:Int}(h:0<b)(h1:b<2 ^ 64):binop S .FloorDiv (.int a) (.int b)=some (.int (a / b),S):=by
 simp only[binop]
 rw[if_pos ⟨h,h1⟩]
noncomputable abbrev dT(ns:List Int)(k j many:Int)(r:Sl):Sl:=some (.lst (ns.map D.int))::some (.int k)::some (.int j)::some (.int many)::r
theorem draw_first{c:Nat→List D→Store→Option (D×Store)}(st:Store)(ns:List Int)(k j many:Int)(hn:ns.length≤63):
  exs (stepEx (runK c 30)) (cDraw.take 4) (dT ns k j many [none,none,none,none,none,none]) st=some (.nx (dT ns k j many [some (.int (drawC ns k).1),some (.int (drawC ns k).2),some (.int (drawC ns k).1),none,none,none]),st):=by
 by_cases he:ns=[]
 ·subst he
  rfl
 ·have hp:0<ns.length:=List.length_pos_iff.mpr he
  have hz:0<(ns.length:Int):=by omega
  have h1:0≤k % (ns.length:Int):=Int.emod_nonneg _ (by omega)
  have h2:k % (ns.length:Int)<ns.length:=Int.emod_lt_of_pos _ hz
  have h5:(k % (ns.length:Int)).toNat<ns.length:=by omega
  have eC:drawC ns k=(ns[(k % (ns.length:Int)).toNat]'h5,k / ns.length):=by
   unfold drawC
   rw[if_neg he,List.getD_eq_getElem?_getD,List.getElem?_eq_getElem h5]
   rfl
  rw[eC]
  have l:∀ (m:Nat) (r:Sl),(runK c (m+2)).ev (dT ns k j many r) st (.bcall .len [(.var 0)])=some (.int ns.length,st):=fun m r=>by
   have v:(runK c (m+1)).ev (dT ns k j many r) st (.var 0)=some (.lst (ns.map D.int),st):=rfl
   rw[ev_k]
   simp only[stepEv,evs,v,Option.bind_some,bfun,bLen,seqAt,Option.map_some,List.length_map]
  have x:idxD st (.lst (ns.map D.int)) (.int (k % ns.length))=some (.int (ns[(k % (ns.length:Int)).toNat]'h5)):=by
   simp only[idxD,seqAt,Option.bind_some,atI,ixN,h1,if_true,List.length_map,h2,List.getElem?_map,List.getElem?_eq_getElem h5,Option.map_some]
  refine(exs_cons (τ':=dT ns k j many [some (.int 0),none,none,none,none,none]) (s':=st) rfl).trans ?_
  refine(exs_cons (τ':=dT ns k j many [some (.int 0),some (.int 1),none,none,none,none]) (s':=st) rfl).trans ?_
  have t:=tCmp (c:=c) (n:=29) (τ:=dT ns k j many [some (.int 0),some (.int 1),none,none,none,none]) (st:=st) (op:=.Gt) (b:=.lit (.int 0)) (y:=.int 0) (k:=true) (l 27 _) rfl (by
   show some (decide ((0:Int)<ns.length))=_
   rw[decide_eq_true hz])
  refine(exs_cons (τ':=dT ns k j many [some (.int (ns[(k % (ns.length:Int)).toNat]'h5)),some (.int (k / ns.length)),none,none,none,none]) (s':=st) ((stepEx_ite_t t).trans ?_)).trans rfl
  refine(exs_cons (τ':=dT ns k j many [some (.int (ns[(k % (ns.length:Int)).toNat]'h5)),some (.int 1),none,none,none,none]) (s':=st) (stS (evX (n:=28) (x:=.lst (ns.map D.int)) rfl (evB (n:=27) (a:=.int k) rfl (l 25 _) (bMo _ _ hz)) x) rfl)).trans ?_
  exact(exs_cons (τ':=dT ns k j many [some (.int (ns[(k % (ns.length:Int)).toNat]'h5)),some (.int (k / ns.length)),none,none,none,none]) (s':=st) (stS (evB (n:=28) (a:=.int k) rfl (l 26 _) (bDi _ _ hz (by omega))) rfl)).trans rfl
theorem draw_second{c:Nat→List D→Store→Option (D×Store)}(st:Store)(ns:List Int)(k j many cell turn:Int)(hj:0≤j)(hj2:j<100000):
  ∃ o,stepEx (runK c 30) (dT ns k j many [some (.int cell),some (.int turn),some (.int cell),none,none,none]) st (.forr (.var 7) (.rng1 (.var 2)) [.set (.var 6) (.bin .FloorDiv (.var 6) (.bin .Pow (.lit (.int 10)) (.lit (.int 10))))])=some (.nx (dT ns k j many [some (.int cell),some (.int turn),some (.int (iterD j.toNat cell)),o,none,none]),st):=by
 have hb:big j=false:=by unfold big; simp; omega
 obtain⟨τ',st',e,o,hT,hS⟩:=loop_rng (lo:=0) (n:=j.toNat) (τ:=dT ns k j many [some (.int cell),some (.int turn),some (.int cell),none,none,none]) (st:=st)
  (f:=fun τ st d=>(setT (.var 7) d τ).bind fun τ'=>(runK c 30).ex τ' st [.set (.var 6) (.bin .FloorDiv (.var 6) (.bin .Pow (.lit (.int 10)) (.lit (.int 10))))])
  (fun i τ s=>∃ (o:Option D),τ=dT ns k j many [some (.int cell),some (.int turn),some (.int (iterD i cell)),o,none,none]∧s=st) ⟨none,rfl,rfl⟩ (by
   rintro i τ s hi ⟨o,rfl,rfl⟩
   refine⟨dT ns k j many [some (.int cell),some (.int turn),some (.int (iterD i cell / 10000000000)),some (.int (0+i)),none,none],s,?_,_,rfl,rfl⟩
   show exs (stepEx (runK c 29)) _ (dT ns k j many [some (.int cell),some (.int turn),some (.int (iterD i cell)),some (.int (0+i)),none,none]) s=_
   exact(exs_cons (τ':=dT ns k j many [some (.int cell),some (.int turn),some (.int (iterD i cell / 10000000000)),some (.int (0+i)),none,none]) (s':=s) (stS (evB (n:=28) (a:=.int (iterD i cell)) (b:=.int 10000000000) rfl rfl (bDi _ _ (by decide) (by decide))) rfl)).trans rfl)
 rw[hT,hS]at e
 refine⟨o,?_⟩
 have v:(runK c 30).ev (dT ns k j many [some (.int cell),some (.int turn),some (.int cell),none,none,none]) st (.var 2)=some (.int j,st):=rfl
 simp only[stepEx,src,v,Option.bind_some,hb,Bool.false_eq_true,if_false,Src.size]
 exact e
theorem draw_eq'{fns:List Fn}{f:Nat}(hf:fns[f]?=some fDraw)(n:Nat)(st:Store)(ns:List Int)(k j many:Int)(hn:ns.length≤63)(hj:0≤j)(hj2:j<100000)(hm:0<many):
  callD fns (n+1) f [.lst (ns.map D.int),.int k,.int j,.int many] st=some (.int (drawV ns k j many),st):=by
 refine call_of 30 hf rfl rfl ?_
 show exs (stepEx (rn fns n 30)) (cDraw.take 4++cDraw.drop 4) (dT ns k j many [none,none,none,none,none,none]) st=_
 rw[exs_split _ (draw_first st ns k j many hn)]
 unfold drawV
 generalize (drawC ns k).1=cell
 generalize (drawC ns k).2=turn
 obtain⟨o,e2⟩:=draw_second (c:=callD fns n) st ns k j many cell turn hj hj2
 refine(exs_cons e2).trans ?_
 generalize iterD j.toNat cell=rest
 have t:=tAnd (c:=callD fns n) (n:=29) (τ:=dT ns k j many [some (.int cell),some (.int turn),some (.int rest),o,none,none]) (st:=st) (tCmp (n:=28) (op:=.Eq) (a:=.var 5) (b:=.lit (.int 0)) (x:=.int turn) (y:=.int 0) (k:=turn==0) rfl rfl (eqD_ii st turn 0)) (tAnd (n:=28) (tCmp (n:=27) (op:=.GtE) (a:=.var 4) (b:=.bin .Pow (.lit (.int 10)) (.lit (.int 18))) (x:=.int cell) (y:=.int 1000000000000000000) rfl rfl rfl) (tCmp (n:=27) (op:=.Gt) (a:=.var 6) (b:=.lit (.int 0)) (x:=.int rest) (y:=.int 0) rfl rfl rfl))
 by_cases hc:turn=0∧1000000000000000000≤cell∧0<rest
 ·rw[if_pos hc]
  have tb:((turn==0)&&(decide (1000000000000000000≤cell)&&decide (0<rest)))=true:=by
   rw[hc.1,decide_eq_true hc.2.1,decide_eq_true hc.2.2]; rfl
  rw[tb]at t
  exact exs_ret ((stepEx_ite_t t).trans (exs_ret (stR (evB (n:=28) (b:=.int many) (evB (n:=27) (a:=.int rest) (b:=.int 10000000000) rfl rfl (bMo _ _ (by decide))) rfl (bMo _ _ hm)))))
 ·rw[if_neg hc]
  have tb:((turn==0)&&(decide (1000000000000000000≤cell)&&decide (0<rest)))=false:=by
   rw[← Bool.not_eq_true,Bool.and_eq_true,Bool.and_eq_true,beq_iff_eq,decide_eq_true_iff,decide_eq_true_iff]
   exact hc
  rw[tb]at t
  refine(exs_cons (τ':=dT ns k j many [some (.int cell),some (.int turn),some (.int rest),o,none,none]) (s':=st) ((stepEx_ite_f t).trans rfl)).trans ?_
  unfold drawF
  refine(exs_cons (stS (evB (n:=29) (b:=.int 1000000007) (evB (n:=28) (b:=.int 31) (evB (n:=27) (evB (n:=26) (evB (n:=25) (a:=.int cell) (b:=.int 7919) rfl rfl (bMu _ _ (by decide) (by decide))) (evB (n:=25) (a:=.int k) (b:=.int 104729) rfl rfl (bMu _ _ (by decide) (by decide))) rfl) (evB (n:=26) (a:=.int j) (b:=.int 1299709) rfl rfl (bMu _ _ (by decide) (by decide))) rfl) rfl rfl) rfl (bMo _ _ (by decide))) rfl)).trans ?_
  generalize (cell*7919+k*104729+j*1299709+31) % 1000000007=one
  try dsimp only
  refine(exs_cons (stS (evB (n:=29) (b:=.int 998244353) (evB (n:=28) (evB (n:=27) (a:=.int one) (b:=.int 48271) rfl rfl (bMu _ _ (by decide) (by decide))) (evB (n:=27) (a:=.int cell) (b:=.int 1009) rfl rfl (bDi _ _ (by decide) (by decide))) rfl) rfl (bMo _ _ (by decide))) rfl)).trans ?_
  generalize (one*48271+cell / 1009) % 998244353=two
  try dsimp only
  have h1:0≤one % 9973:=Int.emod_nonneg _ (by decide)
  have h2:one % 9973<9973:=Int.emod_lt_of_pos _ (by decide)
  refine(exs_cons (stS (evB (n:=29) (b:=.int 1000000009) (evB (n:=28) (b:=.int j) (evB (n:=27) (a:=.int two) rfl (evB (n:=26) (b:=.int 1) (evB (n:=25) (a:=.int one) (b:=.int 9973) rfl rfl (bMo _ _ (by decide))) rfl rfl) (bMu _ _ (by omega) (by omega))) rfl rfl) rfl (bMo _ _ (by decide))) rfl)).trans ?_
  generalize (two*(one % 9973+1)+j) % 1000000009=two'
  try dsimp only
  exact exs_ret (stR (evB (n:=29) (b:=.int many) (evB (n:=28) (b:=.int 2147483647) (evB (n:=27) (evB (n:=26) (evB (n:=25) (a:=.int one) (b:=.int 69621) rfl rfl (bMu _ _ (by decide) (by decide))) (evB (n:=25) (a:=.int two') (b:=.int 40692) rfl rfl (bMu _ _ (by decide) (by decide))) rfl) (evB (n:=26) (a:=.int two') (b:=.int 1013) rfl rfl (bDi _ _ (by decide) (by decide))) rfl) rfl (bMo _ _ (by decide))) rfl (bMo _ _ hm)))
theorem draw_eq{fns:List Fn}{f:Nat}(hf:fns[f]?=some fDraw){N:Nat}(hN:1≤N){st:Store}{ns:List Int}{k j many:Int}(hn:ns.length≤63)(hj:0≤j)(hj2:j<100000)(hm:0<many):
  callD fns N f [.lst (ns.map D.int),.int k,.int j,.int many] st=some (.int (drawV ns k j many),st):=by
 have:=draw_eq' hf (N - 1) st ns k j many hn hj hj2 hm
 rwa [show N - 1+1=N by omega]at this
end M
end
section
namespace M
open PySem (Str)
abbrev CF:=Nat→List D→Store→Option (D×Store)
section
variable {c:CF}{n:Nat}{τ:Sl}{st:Store}{it elt:E}{sr:List (Option Nat)}{s:Src}{rest:Sl}{α:Type}
theorem gc_comp(xs:List α)(f g:α→D)(hsrc:src (runK c n) τ st it=some (s,st))(hat:∀ i,s.at st i=some (xs.map f)[i]?)(hsz:s.size st=xs.length)(hin:inner sr τ=none::rest)(hlim:xs.length<1000000)(hg:∀ x∈xs,noLoc (g x)=true)
  (he:∀ x∈xs,(runK c n).ev (some (f x)::rest) st elt=some (g x,st)):(runK c (n+2)).ev τ st (.gc (.comp (.var 0) it none elt sr))=some (.lst (xs.map g),st):=by
 have h:=comp_map (r:=runK c n) (τ:=τ) (S:=st) (S':=st) (it:=it) (elt:=elt) (sr:=sr) (s:=s) (rest:=rest) (ds:=xs.map f) (es:=xs.map g) hsrc hat (by rw[hsz,List.length_map]) hin (by rw[List.length_map,List.length_map]) (by rw[List.length_map]; unfold lim; omega) (fun i d e h1 h2=>by
  rw[List.getElem?_map]at h1 h2
  cases hx:xs[i]? with
  |none=>rw[hx]at h1; cases h1
  |some x=>
   rw[hx]at h1 h2
   cases h1
   cases h2
   exact he x (List.mem_of_getElem? hx))
 have e1:(runK c (n+1)).ev τ st (.comp (.var 0) it none elt sr)=some (.loc st.length,st++[.lst true (xs.map g)]):=h
 show((runK c (n+1)).ev τ st (.comp (.var 0) it none elt sr)).map (fun p=>gcD st p)=_
 rw[e1]
 show some (gcD st (.loc st.length,st++[.lst true (xs.map g)]))=_
 rw[gc_new (noLocs_map hg)]
theorem gc_ev{d:D}{e:E}(h:(runK c n).ev τ st e=some (d,st))(hd:noLoc d=true):(runK c (n+1)).ev τ st (.gc e)=some (d,st):=by
 show((runK c n).ev τ st e).map (fun p=>gcD st p)=_
 rw[h]
 show some (gcD st (d,st))=_
 rw[gc_same hd]
theorem gc_evL{ds:List D}{e:E}(h:(runK c n).ev τ st e=some (.loc st.length,st++[.lst true ds]))(hd:noLocs ds=true):(runK c (n+1)).ev τ st (.gc e)=some (.lst ds,st):=by
 show((runK c n).ev τ st e).map (fun p=>gcD st p)=_
 rw[h]
 show some (gcD st _)=_
 rw[gc_new hd]
theorem gc_lit{es:List E}{ds:List D}(h:evs ((runK c n).ev τ) es st=some (ds,st))(hl:ds.length≤1000)(hd:noLocs ds=true):(runK c (n+2)).ev τ st (.gc (.lst es))=some (.lst ds,st):=by
 refine gc_evL ?_ hd
 show(evs ((runK c n).ev τ) es st).bind _=_
 rw[h]
 simp only[Option.bind_some]
 rw[if_neg (by unfold lim; omega)]
 rfl
end
noncomputable def cSame(f:Nat):List S:=[
 .ite (.isi (.var 1) [.tup,.lst] true) [.ite (.or (.not (.isi (.var 0) [.tup,.lst] true)) (.cmp .NotEq (.bcall .len [(.var 0)]) (.bcall .len [(.var 1)]))) [.ret (.lit (.bl false))] [],.set (.var 2) (.bcall .all [(.gc (.comp (.var 0) (.rng1 (.bcall .len [(.var 1)])) none (.gc (.call f [(.idx (.var 1) (.var 0)),(.idx (.var 2) (.var 0))])) [none,some 0,some 1]))]),.ret (.and (.var 2) (.cmp .Eq (.isi (.var 0) [.tup] false) (.isi (.var 1) [.tup] false)))] [],
 .set (.var 2) (.cmp .Eq (.isi (.var 0) [.int] false) (.isi (.var 1) [.int] false)),
 .set (.var 2) (.and (.var 2) (.cmp .Eq (.isi (.var 0) [.bl] false) (.isi (.var 1) [.bl] false))),
 .ret (.and (.var 2) (.and (.cmp .Eq (.isi (.var 0) [.str] false) (.isi (.var 1) [.str] false)) (.cmp .Eq (.var 0) (.var 1))))]
noncomputable def fSame(f:Nat):Fn:=⟨2,3,cSame f⟩
inductive Dp:Nat→D→Prop
 |non {k}:Dp k .non
 |bl {k b}:Dp k (.bl b)
 |int {k i}:Dp k (.int i)
 |str {k s}:Dp k (.str s)
 |tup {k ds} (h:∀ d∈ds,Dp k d) (hl:ds.length<100000):Dp (k+1) (.tup ds)
 |lst {k ds} (h:∀ d∈ds,Dp k d) (hl:ds.length<100000):Dp (k+1) (.lst ds)
theorem Dp.noLoc{k:Nat}{d:D}(h:Dp k d):noLoc d=true:=by
 induction h with
 |tup h hl ih=>rw[noLoc_tup]; exact noLocs_of ih
 |lst h hl ih=>rw[noLoc_lst]; exact noLocs_of ih
 |_=>rfl
section
variable {fns:List Fn}{f:Nat}
theorem same_scal(hf:fns[f]?=some (fSame f))(q m:Nat)(st:Store)(d:D)(t:Ty)(ht:∀ S,tyName S d=some t)(h1:tyIs .tup t=false)(h2:tyIs .lst t=false)(hi:Bool)(e1:tyIs .int t=hi)(hb:Bool)(e2:tyIs .bl t=hb)(hs:Bool)(e3:tyIs .str t=hs)(he:∀ S,eqD S d d=some true):callD fns (m+1) f [d,d] st=some (.bl true,st):=by
 refine call_of (q+20) hf rfl rfl ?_
 show exs (stepEx (rn fns m (q+20))) (cSame f) [some d,some d,none] st=_
 unfold cSame
 rw[exs_cons (τ':=[some d,some d,none]) (s':=st) (by
  refine(stepEx_ite_f (st':=st) ?_).trans rfl
  simp only[tst_k,stepTst,ev_k,stepEv,List.getElem?_cons_succ,List.getElem?_cons_zero,Option.bind_some,ht,Option.map_some,List.any_cons,List.any_nil,h1,h2,truth,Bool.or_self])]
 rw[exs_cons (τ':=[some d,some d,some (.bl true)]) (s':=st) (by
  simp only[stepEx,ev_k,stepEv,List.getElem?_cons_succ,List.getElem?_cons_zero,Option.bind_some,ht,Option.map_some,List.any_cons,List.any_nil,e1,cmpD,Bool.or_false,eqD_bb,beq_self_eq_true]
  rfl)]
 rw[exs_cons (τ':=[some d,some d,some (.bl true)]) (s':=st) (by
  simp only[stepEx,ev_k,stepEv,List.getElem?_cons_succ,List.getElem?_cons_zero,Option.bind_some,ht,Option.map_some,List.any_cons,List.any_nil,e2,cmpD,Bool.or_false,eqD_bb,beq_self_eq_true]
  rfl)]
 refine exs_ret ?_
 simp only[stepEx,ev_k,stepEv,List.getElem?_cons_succ,List.getElem?_cons_zero,Option.bind_some,ht,Option.map_some,List.any_cons,List.any_nil,e3,cmpD,Bool.or_false,eqD_bb,beq_self_eq_true,he]
theorem same_row(hf:fns[f]?=some (fSame f))(q m:Nat)(st:Store)(d:D)(ds:List D)(k:Bool)(hd:(d=.tup ds∧k=true)∨(d=.lst ds∧k=false))(hl:ds.length<100000)(ih:∀ x∈ds,callD fns m f [x,x] st=some (.bl true,st)):callD fns (m+1) f [d,d] st=some (.bl true,st):=by
 have ty:∀ S,∃ t,tyName S d=some t∧(tyIs .tup t||tyIs .lst t)=true∧tyIs .tup t=k:=fun S=>by
  rcases hd with⟨rfl,rfl⟩|⟨rfl,rfl⟩
  ·exact⟨.tup,rfl,rfl,rfl⟩
  ·exact⟨.lst,rfl,rfl,rfl⟩
 have ln:∀ S,bLen S [d]=some (.int ds.length,S):=fun S=>by
  rcases hd with⟨rfl,rfl⟩|⟨rfl,rfl⟩
  ·rfl
  ·rfl
 have ix:∀ S (i:Nat) x,ds[i]?=some x→idxD S d (.int ((0:Int)+i))=some x:=fun S i x hx=>by
  have hi:=(List.getElem?_eq_some_iff.mp hx).1
  have h1:(0:Int)≤0+i:=by omega
  have h2:(0:Int)+i<ds.length:=by omega
  have h3:((0:Int)+i).toNat=i:=by omega
  rcases hd with⟨rfl,rfl⟩|⟨rfl,rfl⟩
  ·simp only[idxD,atI,ixN,h1,h2,h3,if_true,Option.bind_some,hx]
  ·simp only[idxD,seqAt,atI,ixN,h1,h2,h3,if_true,Option.bind_some,hx]
 obtain⟨t,t1,t2,t3⟩:=ty st
 have hb:big (ds.length:Int)=false:=by unfold big; simp; omega
 have cm:∀ n:Nat,(rn fns m (n+10)).ev [some d,some d,none] st (.gc (.comp (.var 0) (.rng1 (.bcall .len [(.var 1)])) none (.gc (.call f [(.idx (.var 1) (.var 0)),(.idx (.var 2) (.var 0))])) [none,some 0,some 1]))=some (.lst ((List.range ds.length).map fun _=>.bl true),st):=fun n=>by
  refine gc_comp (n:=n+8) (s:=.rng 0 ds.length) (rest:=[some d,some d]) (List.range ds.length) (fun(i:Nat)=>.int ((0:Int)+i)) (fun _=>.bl true) ?_ (fun i=>at_rng 0 _ i) (by simp[Src.size]) rfl (by simpa using (by omega:ds.length<1000000)) (fun _ _=>rfl) fun i hi=>?_
  ·simp only[src,ev_k,stepEv,evs,List.getElem?_cons_succ,List.getElem?_cons_zero,Option.bind_some,bfun,ln,hb,Bool.false_eq_true,if_false]
   rfl
  ·have hi:i<ds.length:=by simpa using hi
   have hx:ds[i]?=some ds[i]:=by simp
   refine gc_ev (n:=n+7) ?_ rfl
   simp only[ev_k,stepEv,evs,List.getElem?_cons_succ,List.getElem?_cons_zero,Option.bind_some,ix _ i _ hx,Option.map_some,call_k]
   exact ih _ (List.getElem_mem hi)
 refine call_of (q+20) hf rfl rfl ?_
 show exs (stepEx (rn fns m (q+20))) (cSame f) [some d,some d,none] st=_
 unfold cSame
 refine exs_ret ?_
 refine(stepEx_ite_t (st':=st) ?_).trans ?_
 ·simp only[tst_k,stepTst,ev_k,stepEv,List.getElem?_cons_succ,List.getElem?_cons_zero,Option.bind_some,t1,Option.map_some,List.any_cons,List.any_nil,Bool.or_false,t2,truth]
 rw[ex_k]
 rw[exs_cons (τ':=[some d,some d,none]) (s':=st) (by
  refine(stepEx_ite_f (st':=st) ?_).trans rfl
  simp only[tst_k,stepTst,ev_k,stepEv,evs,List.getElem?_cons_succ,List.getElem?_cons_zero,Option.bind_some,t1,Option.map_some,List.any_cons,List.any_nil,Bool.or_false,t2,truth,Bool.not_true,Bool.false_eq_true,if_false,bfun,ln,cmpD,neD,eqD_ii,beq_self_eq_true])]
 rw[exs_cons (τ':=[some d,some d,some (.bl true)]) (s':=st) (by
  have al:bAll st [.lst ((List.range ds.length).map fun _=>.bl true)]=some (.bl true,st):=by
   have:∀ n:Nat,asBools ((List.range n).map fun _=>D.bl true)=some (List.replicate n true):=fun n=>by
    rw[List.map_const',List.length_range]
    induction n with
    |zero=>rfl
    |succ n ih=>rw[List.replicate_succ,List.replicate_succ,asBools,ih]; rfl
   simp only[bAll,seqAt,Option.bind_some,this,Option.map_some]
   simp
  simp only[stepEx]
  rw[ev_k]
  simp only[stepEv,evs,cm,Option.bind_some,bfun,al]
  rfl)]
 refine exs_ret ?_
 simp only[stepEx,ev_k,stepEv,List.getElem?_cons_succ,List.getElem?_cons_zero,Option.bind_some,t1,Option.map_some,List.any_cons,List.any_nil,cmpD,Bool.or_false,eqD_bb,beq_self_eq_true]
theorem same_eq(hf:fns[f]?=some (fSame f)){k:Nat}{d:D}(h:Dp k d):∀ (m:Nat) (st:Store),k<m→callD fns m f [d,d] st=some (.bl true,st):=by
 induction h with
 |non=>intro m st hm; obtain⟨m,rfl⟩:∃ j,m=j+1:=⟨m - 1,by omega⟩; exact same_scal hf 0 m st .non .non (fun _=>rfl) rfl rfl _ rfl _ rfl _ rfl fun _=>eqD_nn _
 |@bl _ b=>intro m st hm; obtain⟨m,rfl⟩:∃ j,m=j+1:=⟨m - 1,by omega⟩; exact same_scal hf 0 m st (.bl b) .bl (fun _=>rfl) rfl rfl _ rfl _ rfl _ rfl fun _=>by rw[eqD_bb]; simp
 |@int _ b=>intro m st hm; obtain⟨m,rfl⟩:∃ j,m=j+1:=⟨m - 1,by omega⟩; exact same_scal hf 0 m st (.int b) .int (fun _=>rfl) rfl rfl _ rfl _ rfl _ rfl fun _=>by rw[eqD_ii]; simp
 |@str _ b=>intro m st hm; obtain⟨m,rfl⟩:∃ j,m=j+1:=⟨m - 1,by omega⟩; exact same_scal hf 0 m st (.str b) .str (fun _=>rfl) rfl rfl _ rfl _ rfl _ rfl fun _=>by rw[eqD_ss]; simp
 |@tup k ds h hl ih=>intro m st hm; obtain⟨m,rfl⟩:∃ j,m=j+1:=⟨m - 1,by omega⟩; exact same_row hf 0 m st _ ds true (.inl ⟨rfl,rfl⟩) hl fun x hx=>ih x hx m st (by omega)
 |@lst k ds h hl ih=>intro m st hm; obtain⟨m,rfl⟩:∃ j,m=j+1:=⟨m - 1,by omega⟩; exact same_row hf 0 m st _ ds false (.inr ⟨rfl,rfl⟩) hl fun x hx=>ih x hx m st (by omega)
end
end M
end
section
namespace M
open PySem (Str)
noncomputable def mk(cs:List Nat):Str:=⟨cs.toArray⟩
noncomputable def natD(n:Nat):List Nat:=(Nat.toDigits 10 n).map Char.toNat
theorem str_nat{i:Int}(h:0≤i):Str.ofString (toString i)=mk (natD i.toNat):=by
 obtain⟨m,rfl⟩:=Int.eq_ofNat_of_zero_le h
 have e:=PySem.W.KIN.signs_num m
 have:∀ a b:Str,a.cps.toList=b.cps.toList→a=b:=fun a b q=>by
  obtain⟨x⟩:=a
  obtain⟨y⟩:=b
  have:x=y:=Array.toList_inj.mp q
  rw[this]
 exact this _ _ e
theorem natD_step{n:Nat}(h:10≤n):natD n=natD (n / 10)++[n % 10+48]:=by
 have hm:n % 10<10:=Nat.mod_lt n (by decide)
 have t:Nat.toDigits 10 (n / 10)++Nat.toDigits 10 (n % 10)=Nat.toDigits 10 (10*(n / 10)+n % 10):=Nat.toDigits_append_toDigits (by decide) (by omega) hm
 rw[Nat.div_add_mod]at t
 unfold natD
 rw[← t,List.map_append,Nat.toDigits_of_lt_base hm]
 congr 1
 have:∀ d:Nat,d<10→(Nat.digitChar d).toNat=d+48:=by decide
 simp[this _ hm]
theorem natD_small{n:Nat}(h:n<10):natD n=[n+48]:=by
 unfold natD
 rw[Nat.toDigits_of_lt_base h]
 have:∀ d:Nat,d<10→(Nat.digitChar d).toNat=d+48:=by decide
 simp[this _ h]
theorem t0:PySem.Str.ofString "0" = mk [48]:=by decide +kernel
theorem te:PySem.Str.ofString "" = mk []:=by decide +kernel
noncomputable def digs:List Nat:=[48,49,50,51,52,53,54,55,56,57]
theorem td:PySem.Str.ofString "0123456789" = mk digs:=by decide +kernel
theorem natD_len:∀ (k n:Nat),n<10 ^ (k+1)→(natD n).length≤k+1
 |0,n,h=>by rw[natD_small (by simpa using h)]; simp
 |k+1,n,h=>by
  by_cases h1:n<10
  ·rw[natD_small h1]; simp
  ·have:n / 10<10 ^ (k+1):=by
    rw[Nat.div_lt_iff_lt_mul (by decide)]
    rw[Nat.pow_succ]at h
    exact h
   have ih:=natD_len k (n / 10) this
   rw[natD_step (by omega),List.length_append,List.length_singleton]
   omega
def Sm(i:Int):Prop:=0≤i∧i<10 ^ 45
theorem Sm.log{i:Int}(h:Sm i):i.natAbs.log2<1920:=by
 obtain⟨h0,h1⟩:=h
 have h2:i.natAbs<10 ^ 45:=by omega
 by_cases hz:i.natAbs=0
 ·rw[hz]; decide
 ·exact(Nat.log2_lt hz).mpr (Nat.lt_of_lt_of_le h2 (Nat.le_trans (show 10 ^ 45≤2 ^ 150 by decide) (Nat.pow_le_pow_right (by decide) (by decide))))
theorem Sm.len{i:Int}(h:Sm i):(natD i.toNat).length≤45:=natD_len 44 i.toNat (by have:=h.1; have:=h.2; omega)
theorem Sm.str{i:Int}(h:Sm i)(S:Store):bStr S [.int i]=some (.str (mk (natD i.toNat)),S):=by
 simp only[bStr]
 rw[if_pos h.log,str_nat h.1]
end M
end
section
namespace M
open PySem (Str)
noncomputable def tD(p:List Nat):D:=.str (mk p)
noncomputable def iD(k:Nat):D:=.int (k:Int)
def nSm(k:Nat):Prop:=k<10 ^ 45
theorem nSm.sm{k:Nat}(h:nSm k):Sm (k:Int):=⟨by omega,by unfold nSm at h; omega⟩
theorem nSm.str{k:Nat}(h:nSm k)(S:Store):bStr S [iD k]=some (tD (natD k),S):=h.sm.str S
theorem nSm.len{k:Nat}(h:nSm k):(natD k).length≤45:=h.sm.len
theorem flats_map{α:Type}(g:α→D)(n:Nat)(h:∀ x,flat n (g x)=true):∀ xs:List α,flats n (xs.map g)=true
 |[]=>rfl
 |x::r=>by rw[List.map_cons,flats,h,flats_map g n h r]; rfl
theorem seq_mid(A r:Store)(w:Bool)(ds:List D):seqAt (A++.lst w ds::r) (.loc A.length)=some ds:=by simp[seqAt,listAt]
theorem seq_end(A:Store)(w:Bool)(ds:List D):seqAt (A++[.lst w ds]) (.loc A.length)=some ds:=seq_mid A [] w ds
noncomputable def sD(ns:List Int):D:=.lst (ns.map D.int)
theorem drw{fns:List Fn}{g N:Nat}{ns:List Int}(hg:fns[g]?=some fDraw)(hN:1≤N)(hn:ns.length≤63)(st:Store)(k j many:Int)(hj:0≤j)(hj2:j<100000)(hm:0<many):callD fns N g [sD ns,.int k,.int j,.int many] st=some (.int (drawV ns k j many),st):=draw_eq hg hN hn hj hj2 hm
theorem gc_call{c:CF}{n f:Nat}{τ:Sl}{st:Store}{es:List E}{ds:List D}{d:D}(hes:evs ((runK c (n+1)).ev τ) es st=some (ds,st))(h:c f ds st=some (d,st))(hd:noLoc d=true):(runK c (n+3)).ev τ st (.gc (.call f es))=some (d,st):=by
 refine gc_ev (n:=n+2) ?_ hd
 show(evs ((runK c (n+1)).ev τ) es st).bind _=_
 rw[hes]
 exact h
theorem pA(S:Store)(a b:Int):binop S .Add (.int a) (.int b)=some (.int (a+b),S):=rfl
end M
end
section
namespace K02
open M
noncomputable def b_cells:List M.S:=[
 .set (.var 1) (.lst []),
 .forr (.var 2) (.rng2 (.idx (.var 0) (.glo "TOP" (.int 1))) (.bin .Add (.idx (.var 0) (.glo "LOW" (.int 3))) (.lit (.int 1)))) [.forr (.var 3) (.rng2 (.idx (.var 0) (.glo "LEFT" (.int 0))) (.bin .Add (.idx (.var 0) (.glo "RIGHT" (.int 2))) (.lit (.int 1)))) [.expr (.meth (.var 1) .append [(.tup [(.var 3),(.var 2)])])]],
 .ret (.var 1)]
noncomputable def f_cells:M.Fn:=⟨1,4,b_cells⟩
noncomputable def b_can_part:List M.S:=[
 .ret (.cmp2 .Lt .LtE (.idx (.var 0) (.var 1)) (.var 2) (.idx (.var 0) (.bin .Add (.var 1) (.lit (.int 2)))))]
noncomputable def f_can_part:M.Fn:=⟨3,3,b_can_part⟩
noncomputable def b_parted:List M.S:=[
 .ite (.not (.gc (.call 1 [(.var 0),(.var 1),(.var 2)]))) [.ret (.lit .non)] [],
 .ite (.cmp .Eq (.var 1) (.lit (.int 0))) [.set (.var 3) (.tup [(.idx (.var 0) (.glo "LEFT" (.int 0))),(.idx (.var 0) (.glo "TOP" (.int 1))),(.bin .Sub (.var 2) (.lit (.int 1))),(.idx (.var 0) (.glo "LOW" (.int 3)))]),.set (.var 4) (.tup [(.var 2),(.idx (.var 0) (.glo "TOP" (.int 1))),(.idx (.var 0) (.glo "RIGHT" (.int 2))),(.idx (.var 0) (.glo "LOW" (.int 3)))])] [.set (.var 3) (.tup [(.idx (.var 0) (.glo "LEFT" (.int 0))),(.idx (.var 0) (.glo "TOP" (.int 1))),(.idx (.var 0) (.glo "RIGHT" (.int 2))),(.bin .Sub (.var 2) (.lit (.int 1)))]),.set (.var 4) (.tup [(.idx (.var 0) (.glo "LEFT" (.int 0))),(.var 2),(.idx (.var 0) (.glo "RIGHT" (.int 2))),(.idx (.var 0) (.glo "LOW" (.int 3)))])],
 .ret (.tup [(.var 3),(.var 4)])]
noncomputable def f_parted:M.Fn:=⟨3,5,b_parted⟩
noncomputable def b_law_draw:List M.S:=[
 .set (.var 4) (.lit (.int 0)),
 .set (.var 5) (.lit (.int 1)),
 .ite (.cmp .Gt (.bcall .len [(.var 0)]) (.lit (.int 0))) [.set (.var 4) (.idx (.var 0) (.bin .Mod (.var 1) (.bcall .len [(.var 0)]))),.set (.var 5) (.bin .FloorDiv (.var 1) (.bcall .len [(.var 0)]))] [],
 .set (.var 6) (.var 4),
 .forr (.var 7) (.rng1 (.var 2)) [.set (.var 6) (.bin .FloorDiv (.var 6) (.bin .Pow (.lit (.int 10)) (.lit (.int 10))))],
 .ite (.and (.cmp .Eq (.var 5) (.lit (.int 0))) (.and (.cmp .GtE (.var 4) (.bin .Pow (.lit (.int 10)) (.lit (.int 18)))) (.cmp .Gt (.var 6) (.lit (.int 0))))) [.ret (.bin .Mod (.bin .Mod (.var 6) (.bin .Pow (.lit (.int 10)) (.lit (.int 10)))) (.var 3))] [],
 .set (.var 8) (.bin .Mod (.bin .Add (.bin .Add (.bin .Add (.bin .Mult (.var 4) (.lit (.int 7919))) (.bin .Mult (.var 1) (.lit (.int 104729)))) (.bin .Mult (.var 2) (.lit (.int 1299709)))) (.lit (.int 31))) (.lit (.int 1000000007))),
 .set (.var 9) (.bin .Mod (.bin .Add (.bin .Mult (.var 8) (.lit (.int 48271))) (.bin .FloorDiv (.var 4) (.lit (.int 1009)))) (.lit (.int 998244353))),
 .set (.var 9) (.bin .Mod (.bin .Add (.bin .Mult (.var 9) (.bin .Add (.bin .Mod (.var 8) (.lit (.int 9973))) (.lit (.int 1)))) (.var 2)) (.lit (.int 1000000009))),
 .ret (.bin .Mod (.bin .Mod (.bin .Add (.bin .Add (.bin .Mult (.var 8) (.lit (.int 69621))) (.bin .Mult (.var 9) (.lit (.int 40692)))) (.bin .FloorDiv (.var 9) (.lit (.int 1013)))) (.lit (.int 2147483647))) (.var 3))]
noncomputable def f_law_draw:M.Fn:=⟨4,10,b_law_draw⟩
noncomputable def b_law_same:List M.S:=[
 .ite (.isi (.var 1) [.tup,.lst] true) [.ite (.or (.not (.isi (.var 0) [.tup,.lst] true)) (.cmp .NotEq (.bcall .len [(.var 0)]) (.bcall .len [(.var 1)]))) [.ret (.lit (.bl false))] [],.set (.var 2) (.bcall .all [(.gc (.comp (.var 0) (.rng1 (.bcall .len [(.var 1)])) none (.gc (.call 4 [(.idx (.var 1) (.var 0)),(.idx (.var 2) (.var 0))])) [none,some 0,some 1]))]),.ret (.and (.var 2) (.cmp .Eq (.isi (.var 0) [.tup] false) (.isi (.var 1) [.tup] false)))] [],
 .set (.var 2) (.cmp .Eq (.isi (.var 0) [.int] false) (.isi (.var 1) [.int] false)),
 .set (.var 2) (.and (.var 2) (.cmp .Eq (.isi (.var 0) [.bl] false) (.isi (.var 1) [.bl] false))),
 .ret (.and (.var 2) (.and (.cmp .Eq (.isi (.var 0) [.str] false) (.isi (.var 1) [.str] false)) (.cmp .Eq (.var 0) (.var 1))))]
noncomputable def f_law_same:M.Fn:=⟨2,3,b_law_same⟩
noncomputable def b_law_rect:List M.S:=[
 .set (.var 5) (.gc (.bcall .sorted [(.gc (.lst [(.call 3 [(.var 0),(.var 1),(.var 2),(.var 3)]),(.call 3 [(.var 0),(.var 1),(.bin .Add (.var 2) (.lit (.int 1))),(.var 3)])]))])),
 .set (.var 6) (.gc (.bcall .sorted [(.gc (.lst [(.call 3 [(.var 0),(.var 1),(.bin .Add (.var 2) (.lit (.int 2))),(.var 4)]),(.call 3 [(.var 0),(.var 1),(.bin .Add (.var 2) (.lit (.int 3))),(.var 4)])]))])),
 .ret (.tup [(.idx (.var 5) (.lit (.int 0))),(.idx (.var 6) (.lit (.int 0))),(.idx (.var 5) (.lit (.int 1))),(.idx (.var 6) (.lit (.int 1)))])]
noncomputable def f_law_rect:M.Fn:=⟨5,7,b_law_rect⟩
noncomputable def b_law:List M.S:=[
 .set (.var 1) (.gc (.call 5 [(.var 0),(.lit (.int 0)),(.lit (.int 0)),(.lit (.int 24)),(.lit (.int 24))])),
 .set (.var 2) (.gc (.call 3 [(.var 0),(.lit (.int 1)),(.lit (.int 0)),(.lit (.int 2))])),
 .set (.var 3) (.bin .Sub (.gc (.call 3 [(.var 0),(.lit (.int 1)),(.lit (.int 1)),(.lit (.int 29))])) (.lit (.int 2))),
 .ite (.cmp .Eq (.gc (.call 3 [(.var 0),(.lit (.int 1)),(.lit (.int 2)),(.lit (.int 2))])) (.lit (.int 0))) [.set (.var 3) (.bin .Sub (.bin .Add (.idx (.var 1) (.bin .Add (.var 2) (.bin .Mult (.lit (.int 2)) (.gc (.call 3 [(.var 0),(.lit (.int 1)),(.lit (.int 3)),(.lit (.int 2))]))))) (.gc (.call 3 [(.var 0),(.lit (.int 1)),(.lit (.int 4)),(.lit (.int 3))]))) (.lit (.int 1)))] [],
 .set (.var 4) (.gc (.call 2 [(.var 1),(.var 2),(.var 3)])),
 .ite (.not (.cmp2 .Lt .LtE (.idx (.var 1) (.var 2)) (.var 3) (.idx (.var 1) (.bin .Add (.var 2) (.lit (.int 2)))))) [.ret (.cmp .Is (.var 4) (.lit .non))] [],
 .set (.var 5) (.bcall .list [(.var 1)]),
 .set (.var 6) (.bcall .list [(.var 1)]),
 .setIx (.var 5) (.bin .Add (.var 2) (.lit (.int 2))) (.bin .Sub (.var 3) (.lit (.int 1))),
 .setIx (.var 6) (.var 2) (.var 3),
 .ite (.not (.gc (.call 4 [(.var 4),(.tup [(.bcall .tuple [(.var 5)]),(.bcall .tuple [(.var 6)])])]))) [.ret (.lit (.bl false))] [],
 .ret (.cmp .Eq (.gc (.bcall .sorted [(.bin .Add (.gc (.call 0 [(.idx (.var 4) (.lit (.int 0)))])) (.gc (.call 0 [(.idx (.var 4) (.lit (.int 1)))])))])) (.gc (.bcall .sorted [(.gc (.call 0 [(.var 1)]))])))]
noncomputable def f_law:M.Fn:=⟨1,7,b_law⟩
noncomputable def fns:List M.Fn:=[f_cells,f_can_part,f_parted,f_law_draw,f_law_same,f_law_rect,f_law]
theorem hDraw:fns[3]?=some fDraw:=rfl
theorem hSame:fns[4]?=some (fSame 4):=rfl
theorem dex{ns:List Int}(hn:ns.length≤63){N:Nat}(hN:1≤N)(k j many:Int)(hj:0≤j)(hj2:j<1000)(hm:0<many):∃ v,0≤v∧v<many∧∀ st,callD fns N 3 [sD ns,.int k,.int j,.int many] st=some (.int v,st):=
 ⟨drawV ns k j many,drawV_lo ns k j hm,drawV_hi ns k j hm,fun st=>drw hDraw hN hn st k j many hj (by omega) hm⟩
theorem ret_ok{c:CF}{n:Nat}{τ:Sl}{st st':Store}{e:E}{d:D}{b:List S}(h:(runK c n).ev τ st e=some (d,st')):exs (stepEx (runK c n)) (.ret e::b) τ st=some (.rt d,st'):=by
 refine exs_ret ?_
 simp only[stepEx,h,Option.map_some]
theorem evs2{f:Store→E→Option (D×Store)}{e:E}{es:List E}{st:Store}{d:D}{ds:List D}(h:f st e=some (d,st))(t:evs f es st=some (ds,st)):evs f (e::es) st=some (d::ds,st):=by
 simp only[evs,h,t,Option.bind_some]
theorem big_f{i:Int}(h0:-1000≤i)(h1:i<1000):big i=false:=by unfold big; simp; omega
theorem app_end{c:CF}{n i:Nat}{τ:Sl}{st:Store}{ds:List D}{d:D}{e:E}(hv:τ[i]?=some (some (.loc st.length)))(he:(runK c (n+1)).ev τ (st++[.lst true ds]) e=some (d,st++[.lst true ds]))(hl:ds.length<1000):
  (runK c (n+2)).ev τ (st++[.lst true ds]) (.meth (.var i) .append [e])=some (.non,st++[.lst true (ds++[d])]):=by
 have v:(runK c (n+1)).ev τ (st++[.lst true ds]) (.var i)=some (.loc st.length,st++[.lst true ds]):=evV hv
 have mt:mty (st++[.lst true ds]) .append (.loc st.length)=true:=by
  simp only[mty,seq_end]
  rfl
 have wl:wlistAt (st++[.lst true ds]) st.length=some ds:=wlistAt_new st ds
 rw[ev_k]
 simp only[stepEv,v,Option.bind_some,mt,if_true,evs,he,mfun,mAppend,wl]
 rw[if_pos (by unfold lim; omega),set_new]
noncomputable def rowL(a y:Int)(n:Nat):List (Int×Int):=(List.range n).map fun(i:Nat)=>(a+(i:Int),y)
noncomputable def cellL(a b:Int)(w:Nat)(h:Nat):List (Int×Int):=(List.range h).flatMap fun(j:Nat)=>rowL a (b+(j:Int)) w
theorem rowL_succ(a y:Int)(n:Nat):rowL a y (n+1)=rowL a y n++[(a+(n:Int),y)]:=by
 unfold rowL; rw[List.range_succ,List.map_append]; rfl
theorem cellL_succ(a b:Int)(w h:Nat):cellL a b w (h+1)=cellL a b w h++rowL a (b+(h:Int)) w:=by
 unfold cellL; rw[List.range_succ,List.flatMap_append]; simp
theorem rowL_len(a y:Int)(n:Nat):(rowL a y n).length=n:=by unfold rowL; simp
theorem cellL_len(a b:Int)(w:Nat):∀ h:Nat,(cellL a b w h).length=h*w
 |0=>by simp[cellL]
 |h+1=>by rw[cellL_succ,List.length_append,cellL_len a b w h,rowL_len,Nat.succ_mul]
noncomputable abbrev rD(a b c d:Int):D:=.tup [.int a,.int b,.int c,.int d]
noncomputable abbrev cT(a b c d:Int)(l:Nat)(y x:Option D):Sl:=[some (rD a b c d),some (.loc l),y,x]
noncomputable def inB:List S:=[.expr (.meth (.var 1) .append [(.tup [(.var 3),(.var 2)])])]
noncomputable def rngX:E:=.rng2 (.idx (.var 0) (.glo "LEFT" (.int 0))) (.bin .Add (.idx (.var 0) (.glo "RIGHT" (.int 2))) (.lit (.int 1)))
noncomputable def rngY:E:=.rng2 (.idx (.var 0) (.glo "TOP" (.int 1))) (.bin .Add (.idx (.var 0) (.glo "LOW" (.int 3))) (.lit (.int 1)))
theorem in_ok{m:Nat}(st:Store)(a b c d y:Int)(ha:-100≤a)(ha':a≤100)(hc:-100≤c)(hc':c≤100)(x:Option D)(pre:List (Int×Int))(hw:(c+1 - a).toNat≤24)(hl:pre.length≤576):∃ x',
  stepEx (rn fns m 20) (cT a b c d st.length (some (.int y)) x) (st++[.lst true (pre.map pD)]) (.forr (.var 3) rngX inB)=some (.nx (cT a b c d st.length (some (.int y)) x'),st++[.lst true ((pre++rowL a y (c+1 - a).toNat).map pD)]):=by
 obtain⟨τ',S',el,x',rfl,rfl⟩:=loop_rng (lo:=a) (n:=(c+1 - a).toNat) (τ:=cT a b c d st.length (some (.int y)) x) (st:=st++[.lst true (pre.map pD)])
  (f:=fun τ st d=>(setT (.var 3) d τ).bind fun τ'=>(rn fns m 20).ex τ' st inB)
  (fun i τ S=>∃ x',τ=cT a b c d st.length (some (.int y)) x'∧S=st++[.lst true ((pre++rowL a y i).map pD)]) ⟨x,rfl,by rw[show rowL a y 0=[] from rfl,List.append_nil]⟩ (by
   rintro i τ S hi ⟨x1,rfl,rfl⟩
   refine⟨cT a b c d st.length (some (.int y)) (some (.int (a+(i:Int)))),_,?_,_,rfl,rfl⟩
   have ap:=app_end (c:=callD fns m) (n:=17) (i:=1) (τ:=cT a b c d st.length (some (.int y)) (some (.int (a+(i:Int))))) (st:=st) (ds:=(pre++rowL a y i).map pD) (d:=pD (a+(i:Int),y)) (e:=.tup [(.var 3),(.var 2)]) rfl rfl (by
    rw[List.length_map,List.length_append,rowL_len]; omega)
   have s8:setT (.var 3) (.int (a+(i:Int))) (cT a b c d st.length (some (.int y)) x1)=some (cT a b c d st.length (some (.int y)) (some (.int (a+(i:Int))))):=rfl
   rw[s8,Option.bind_some,ex_k]
   unfold inB
   refine(exs_cons (τ':=cT a b c d st.length (some (.int y)) (some (.int (a+(i:Int))))) (s':=st++[.lst true ((pre++rowL a y (i+1)).map pD)]) ?_).trans rfl
   have ap':(rn fns m 19).ev _ _ _=_:=ap
   simp only[stepEx,ap',Option.map_some]
   rw[rowL_succ,← List.append_assoc,List.map_append (l₂:=[_])]
   rfl)
 refine⟨x',?_⟩
 have e1:(runK (callD fns m) 20).ev (cT a b c d st.length (some (.int y)) x) (st++[.lst true (pre.map pD)]) (.idx (.var 0) (.glo "LEFT" (.int 0)))=some (.int a,st++[.lst true (pre.map pD)]):=rfl
 have e2:(runK (callD fns m) 20).ev (cT a b c d st.length (some (.int y)) x) (st++[.lst true (pre.map pD)]) (.bin .Add (.idx (.var 0) (.glo "RIGHT" (.int 2))) (.lit (.int 1)))=some (.int (c+1),st++[.lst true (pre.map pD)]):=rfl
 unfold rngX
 simp only[stepEx,src,e1,e2,Option.bind_some,big_f (i:=a) (by omega) (by omega),big_f (i:=c+1) (by omega) (by omega),Bool.or_false,Bool.false_eq_true,if_false,Src.size]
 exact el
theorem turn_ok{m:Nat}(st:Store)(a b c d:Int)(ha:-100≤a)(ha':a≤100)(hc:-100≤c)(hc':c≤100)(hw:(c+1 - a).toNat≤24)(i:Nat)(hi:i<24)(y1 x1:Option D):∃ x2,
  (setT (.var 2) (.int (b+(i:Int))) (cT a b c d st.length y1 x1)).bind (fun τ'=>(rn fns m 21).ex τ' (st++[.lst true ((cellL a b (c+1 - a).toNat i).map pD)]) [.forr (.var 3) rngX inB])
   = some (.nx (cT a b c d st.length (some (.int (b+(i:Int)))) x2),st++[.lst true ((cellL a b (c+1 - a).toNat (i+1)).map pD)]):=by
 obtain⟨x2,e⟩:=in_ok (m:=m) st a b c d (b+(i:Int)) ha ha' hc hc' x1 (cellL a b (c+1 - a).toNat i) hw (by
  rw[cellL_len]
  exact Nat.le_trans (Nat.mul_le_mul (Nat.le_of_lt hi) hw) (by decide))
 refine⟨x2,?_⟩
 have s8:setT (.var 2) (.int (b+(i:Int))) (cT a b c d st.length y1 x1)=some (cT a b c d st.length (some (.int (b+(i:Int)))) x1):=rfl
 rw[s8,Option.bind_some,cellL_succ,ex_k]
 generalize st++[.lst true ((cellL a b (c+1 - a).toNat i).map pD)]=B at e ⊢
 generalize st++[.lst true ((cellL a b (c+1 - a).toNat i++rowL a (b+(i:Int)) (c+1 - a).toNat).map pD)]=B' at e ⊢
 have e3:exs (stepEx (rn fns m 20)) [.forr (.var 3) rngX inB] (cT a b c d st.length (some (.int (b+(i:Int)))) x1) B=exs (stepEx (rn fns m 20)) [] (cT a b c d st.length (some (.int (b+(i:Int)))) x2) B':=exs_cons e
 exact e3
theorem out_ok{m:Nat}(st:Store)(a b c d:Int)(ha:-100≤a)(ha':a≤100)(hb:-100≤b)(hb':b≤100)(hc:-100≤c)(hc':c≤100)(hd:-100≤d)(hd':d≤100)(hw:(c+1 - a).toNat≤24)(hh:(d+1 - b).toNat≤24):∃ y' x',
  stepEx (rn fns m 21) (cT a b c d st.length none none) (st++[.lst true []]) (.forr (.var 2) rngY [.forr (.var 3) rngX inB])=some (.nx (cT a b c d st.length y' x'),st++[.lst true ((cellL a b (c+1 - a).toNat (d+1 - b).toNat).map pD)]):=by
 obtain⟨τ',S',el,y',x',rfl,rfl⟩:=loop_rng (lo:=b) (n:=(d+1 - b).toNat) (τ:=cT a b c d st.length none none) (st:=st++[.lst true []])
  (f:=fun τ st d=>(setT (.var 2) d τ).bind fun τ'=>(rn fns m 21).ex τ' st [.forr (.var 3) rngX inB])
  (fun i τ S=>∃ y' x',τ=cT a b c d st.length y' x'∧S=st++[.lst true ((cellL a b (c+1 - a).toNat i).map pD)]) ⟨none,none,rfl,rfl⟩ (by
   rintro i τ S hi ⟨y1,x1,rfl,rfl⟩
   obtain⟨x2,e⟩:=turn_ok (m:=m) st a b c d ha ha' hc hc' hw i (by omega) y1 x1
   exact⟨_,_,e,_,_,rfl,rfl⟩)
 refine⟨y',x',?_⟩
 have e1:(runK (callD fns m) 21).ev (cT a b c d st.length none none) (st++[.lst true []]) (.idx (.var 0) (.glo "TOP" (.int 1)))=some (.int b,st++[.lst true []]):=rfl
 have e2:(runK (callD fns m) 21).ev (cT a b c d st.length none none) (st++[.lst true []]) (.bin .Add (.idx (.var 0) (.glo "LOW" (.int 3))) (.lit (.int 1)))=some (.int (d+1),st++[.lst true []]):=rfl
 unfold rngY
 simp only[stepEx,src,e1,e2,Option.bind_some,big_f (i:=b) (by omega) (by omega),big_f (i:=d+1) (by omega) (by omega),Bool.or_false,Bool.false_eq_true,if_false,Src.size]
 exact el
theorem cells_ok{m:Nat}(st:Store)(a b c d:Int)(ha:-100≤a)(ha':a≤100)(hb:-100≤b)(hb':b≤100)(hc:-100≤c)(hc':c≤100)(hd:-100≤d)(hd':d≤100)(hw:(c+1 - a).toNat≤24)(hh:(d+1 - b).toNat≤24):
  callD fns (m+1) 0 [rD a b c d] st=some (.loc st.length,st++[.lst true ((cellL a b (c+1 - a).toNat (d+1 - b).toNat).map pD)]):=by
 obtain⟨y',x',e⟩:=out_ok (m:=m) st a b c d ha ha' hb hb' hc hc' hd hd' hw hh
 generalize (cellL a b (c+1 - a).toNat (d+1 - b).toNat).map pD=L at e ⊢
 refine call_of 21 (F:=f_cells) rfl rfl rfl ?_
 show exs (stepEx (rn fns m 21)) b_cells [some (rD a b c d),none,none,none] st=_
 have e0:stepEx (rn fns m 21) [some (rD a b c d),none,none,none] st (.set (.var 1) (.lst []))=some (.nx (cT a b c d st.length none none),st++[.lst true []]):=rfl
 have e9:(rn fns m 21).ev (cT a b c d st.length y' x') (st++[.lst true L]) (.var 1)=some (.loc st.length,st++[.lst true L]):=rfl
 have t:b_cells=[.set (.var 1) (.lst []),.forr (.var 2) rngY [.forr (.var 3) rngX inB],.ret (.var 1)]:=rfl
 rw[t]
 exact(exs_cons e0).trans ((exs_cons e).trans (ret_ok e9))
theorem leP_iff{a b:Int×Int}:leP a b=true↔a.1<b.1∨(a.1=b.1∧a.2≤b.2):=by
 unfold leP
 simp only[Bool.or_eq_true,Bool.and_eq_true,decide_eq_true_eq]
theorem insP_perm(x:Int×Int):∀ l:List (Int×Int),(insP x l).Perm (x::l)
 |[]=>List.Perm.refl _
 |y::r=>by
  unfold insP
  split
  ·exact List.Perm.refl _
  ·exact((insP_perm x r).cons y).trans (List.Perm.swap x y r)
theorem sortP_perm:∀ l:List (Int×Int),(sortP l).Perm l
 |[]=>List.Perm.refl _
 |x::r=>(insP_perm x _).trans ((sortP_perm r).cons x)
theorem insP_up(x:Int×Int):∀ l:List (Int×Int),l.Pairwise (fun a b=>leP a b=true)→(insP x l).Pairwise (fun a b=>leP a b=true)
 |[],_=>List.pairwise_singleton _ _
 |y::r,h=>by
  unfold insP
  have h':=List.pairwise_cons.mp h
  split
  ·rename_i g
   refine List.pairwise_cons.mpr ⟨fun z hz=>?_,h⟩
   rcases List.mem_cons.mp hz with rfl|hz
   ·exact g
   ·have q:=h'.1 z hz
    rw[leP_iff]at *
    omega
  ·rename_i g
   refine List.pairwise_cons.mpr ⟨fun z hz=>?_,insP_up x r h'.2⟩
   rcases List.mem_cons.mp ((insP_perm x r).mem_iff.mp hz) with rfl|hz
   ·rw[leP_iff]at *
    omega
   ·exact h'.1 z hz
theorem sortP_up:∀ l:List (Int×Int),(sortP l).Pairwise (fun a b=>leP a b=true)
 |[]=>List.Pairwise.nil
 |x::r=>insP_up x _ (sortP_up r)
theorem sortP_eq{A B:List (Int×Int)}(h:A.Perm B):sortP A=sortP B:=
 List.Perm.eq_of_pairwise (le:=fun a b=>leP a b=true) (fun a b _ _ h1 h2=>by
  rw[leP_iff]at h1 h2
  exact Prod.ext (by omega) (by omega)) (sortP_up A) (sortP_up B) ((sortP_perm A).trans (h.trans (sortP_perm B).symm))
theorem rowL_add(a y:Int)(u:Nat):∀ v:Nat,rowL a y (u+v)=rowL a y u++rowL (a+(u:Int)) y v
 |0=>by
  rw[show rowL (a+(u:Int)) y 0=[] from rfl,List.append_nil]; rfl
 |v+1=>by
  rw[← Nat.add_assoc,rowL_succ,rowL_succ,rowL_add a y u v,List.append_assoc,show a+((u+v:Nat):Int)=a+(u:Int)+(v:Int) by omega]
theorem cell_x(a b:Int)(u v:Nat):∀ h:Nat,(cellL a b u h++cellL (a+(u:Int)) b v h).Perm (cellL a b (u+v) h)
 |0=>List.Perm.refl _
 |h+1=>by
  rw[cellL_succ,cellL_succ,cellL_succ,rowL_add]
  have ih:=cell_x a b u v h
  generalize cellL a b u h=C1 at *
  generalize cellL (a+(u:Int)) b v h=C2 at *
  generalize rowL a (b+(h:Int)) u=R1
  generalize rowL (a+(u:Int)) (b+(h:Int)) v=R2
  have e:(C1++R1++(C2++R2)).Perm (C1++C2++(R1++R2)):=by
   rw[List.append_assoc,List.append_assoc]
   refine(List.Perm.refl C1).append ?_
   rw[← List.append_assoc,← List.append_assoc]
   exact List.perm_append_comm.append (List.Perm.refl R2)
  exact e.trans (ih.append (List.Perm.refl _))
theorem cell_y(a b:Int)(w u:Nat):∀ v:Nat,cellL a b w u++cellL a (b+(u:Int)) w v=cellL a b w (u+v)
 |0=>by
  rw[show cellL a (b+(u:Int)) w 0=[] from rfl,List.append_nil]; rfl
 |v+1=>by
  rw[← Nat.add_assoc,cellL_succ,cellL_succ,← cell_y a b w u v,List.append_assoc,show b+((u+v:Nat):Int)=b+(u:Int)+(v:Int) by omega]
theorem eq_pairs(S:Store)(A:List (Int×Int)):eqD S (.lst (A.map pD)) (.lst (A.map pD))=some true:=by
 have r:∀ B:List (Int×Int),eqTs (B.map pD) (B.map pD)=true:=by
  intro B
  induction B with
  |nil=>rfl
  |cons p B ih=>
   rw[List.map_cons]
   show(eqT (pD p) (pD p)&&eqTs (B.map pD) (B.map pD))=true
   rw[ih,Bool.and_true]
   simp[pD,eqT,eqTs]
 have f:=flats_map pD 9 (fun _=>rfl) A
 have s:seqAt S (.lst (A.map pD))=some (A.map pD):=rfl
 unfold eqD
 rw[s]
 simp only[f,Bool.and_self,if_true,r]
theorem nl_pD(A:List (Int×Int)):noLocs (A.map pD)=true:=noLocs_map fun _ _=>rfl
theorem as_pD:∀ A:List (Int×Int),asPairs (A.map pD)=some A
 |[]=>rfl
 |p::A=>by
  rw[List.map_cons]
  show(asPairs (A.map pD)).map _=_
  rw[as_pD A]; rfl
theorem ai_pD(p:Int×Int)(A:List (Int×Int)):asInts ((p::A).map pD)=none:=rfl
theorem srt_pD(S:Store)(d:D)(A:List (Int×Int))(h:seqAt S d=some (A.map pD)):bSorted S [d]=some (alloc S (.lst true ((sortP A).map pD))):=by
 show(seqAt S d).bind _=_
 rw[h]
 show((if 64≤(A.map pD).length then none else asInts (A.map pD)).map _).or ((asPairs (A.map pD)).map _)=_
 rw[as_pD]
 cases A with
 |nil=>rfl
 |cons p A=>
  rw[ai_pD]
  have e:(if 64≤((p::A).map pD).length then(none:Option (List Int)) else none)=none:=by split<;>rfl
  rw[e]
  rfl
theorem gc_cells{m n:Nat}{τ:Sl}{st:Store}{e:E}(a b c d:Int)(he:(rn fns (m+1) (n+1)).ev τ st e=some (rD a b c d,st))(L:List (Int×Int))(h:callD fns (m+1) 0 [rD a b c d] st=some (.loc st.length,st++[.lst true (L.map pD)])):
  (rn fns (m+1) (n+3)).ev τ st (.gc (.call 0 [e]))=some (.lst (L.map pD),st):=by
 refine gc_evL (n:=n+2) ?_ (nl_pD L)
 have es:evs ((rn fns (m+1) (n+1)).ev τ) [e] st=some ([rD a b c d],st):=evs2 he rfl
 show(evs ((runK (callD fns (m+1)) (n+1)).ev τ) [e] st).bind _=_
 have es':evs ((runK (callD fns (m+1)) (n+1)).ev τ) [e] st=some ([rD a b c d],st):=es
 rw[es']
 exact h
theorem gc_two{c:CF}{n:Nat}{τ:Sl}{st:Store}{x:Cell}{ds:List D}{e:E}(h:(runK c n).ev τ st e=some (.loc (st.length+1),st++[x,.lst true ds]))(hd:noLocs ds=true):(runK c (n+1)).ev τ st (.gc e)=some (.lst ds,st):=by
 show((runK c n).ev τ st e).map (fun p=>gcD st p)=_
 rw[h]
 show some (gcD st (D.loc (st.length+1),st++[x,Cell.lst true ds]))=_
 have e1:(st++[x,Cell.lst true ds]).take st.length=st:=by simp
 have e2:(st++[x,Cell.lst true ds])[st.length+1]?=some (.lst true ds):=by simp
 have e3:¬ noLoc (D.loc (st.length+1))=true:=fun h=>nomatch h
 have e4:st.length≤st.length+1:=Nat.le_succ _
 unfold gcD
 rw[if_pos e1,if_neg e3]
 dsimp only
 rw[if_pos e4,e2]
 simp only[hd,if_true]
theorem srt_sum{c:CF}{n:Nat}{τ:Sl}{st:Store}{a b:E}{A B:List (Int×Int)}(ha:(runK c n).ev τ st a=some (.lst (A.map pD),st))(hb:(runK c n).ev τ st b=some (.lst (B.map pD),st))(hl:A.length+B.length≤1000):
  (runK c (n+3)).ev τ st (.gc (.bcall .sorted [(.bin .Add a b)]))=some (.lst ((sortP (A++B)).map pD),st):=by
 have s:(runK c (n+1)).ev τ st (.bin .Add a b)=some (.loc st.length,st++[.lst true ((A++B).map pD)]):=by
  rw[ev_k]
  simp only[stepEv,ha,hb,Option.bind_some]
  show(if lim<(A.map pD).length+(B.map pD).length then none else some (alloc st (.lst true (A.map pD++B.map pD))))=_
  rw[if_neg (by rw[List.length_map,List.length_map]; unfold lim; omega),List.map_append]
  rfl
 refine gc_two (n:=n+2) (x:=.lst true ((A++B).map pD)) ?_ (nl_pD _)
 have es:evs ((runK c (n+1)).ev τ) [(.bin .Add a b)] st=some ([.loc st.length],st++[.lst true ((A++B).map pD)]):=by
  simp only[evs,s,Option.bind_some]
 rw[ev_k]
 simp only[stepEv,es,Option.bind_some,bfun]
 rw[srt_pD _ _ (A++B) (seq_end _ _ _)]
 unfold alloc
 simp
theorem srt_one{c:CF}{n:Nat}{τ:Sl}{st:Store}{a:E}{A:List (Int×Int)}(ha:(runK c n).ev τ st a=some (.lst (A.map pD),st)):(runK c (n+2)).ev τ st (.gc (.bcall .sorted [a]))=some (.lst ((sortP A).map pD),st):=by
 refine gc_evL (n:=n+1) ?_ (nl_pD _)
 have es:evs ((runK c n).ev τ) [a] st=some ([.lst (A.map pD)],st):=evs2 ha rfl
 rw[ev_k]
 simp only[stepEv,es,Option.bind_some,bfun]
 rw[srt_pD _ _ A rfl]
 rfl
theorem sort2(a b:Int):∃ lo hi,sortInt [a,b]=[lo,hi]∧lo≤hi∧((lo=a∧hi=b)∨(lo=b∧hi=a)):=by
 by_cases h:a≤b
 ·exact⟨a,b,by simp[sortInt,insInt,h],h,.inl ⟨rfl,rfl⟩⟩
 ·exact⟨b,a,by simp[sortInt,insInt,h],by omega,.inr ⟨rfl,rfl⟩⟩
theorem gc_sort{c:CF}{n:Nat}{τ:Sl}{st:Store}{e1 e2:E}{a b lo hi:Int}(h1:(runK c n).ev τ st e1=some (.int a,st))(h2:(runK c n).ev τ st e2=some (.int b,st))(hs:sortInt [a,b]=[lo,hi]):(runK c (n+4)).ev τ st (.gc (.bcall .sorted [(.gc (.lst [e1,e2]))]))=some (.lst [.int lo,.int hi],st):=by
 refine gc_evL (n:=n+3) ?_ rfl
 have l:=gc_lit (c:=c) (n:=n) (τ:=τ) (st:=st) (es:=[e1,e2]) (ds:=[.int a,.int b]) (evs2 h1 (evs2 h2 rfl)) (by simp) rfl
 rw[ev_k]
 have ls:¬ 64≤[D.int a,D.int b].length:=by simp
 simp only[stepEv,evs,l,Option.bind_some,bfun,bSorted,seqAt,ls,if_false,asInts,Option.map_some,hs]
 rfl
theorem rect_ok{ns:List Int}(hn:ns.length≤63){m:Nat}(hm:2≤m):∃ a b c d:Int,0≤a∧a≤c∧c<24∧0≤b∧b≤d∧d<24∧∀ st,callD fns m 5 [sD ns,.int 0,.int 0,.int 24,.int 24] st=some (rD a b c d,st):=by
 obtain⟨m,rfl⟩:∃ q,m=q+1:=⟨m - 1,by omega⟩
 obtain⟨r1,p1,q1,e1⟩:=dex hn (N:=m) (by omega) 0 0 24 (by decide) (by decide) (by decide)
 obtain⟨r2,p2,q2,e2⟩:=dex hn (N:=m) (by omega) 0 1 24 (by decide) (by decide) (by decide)
 obtain⟨r3,p3,q3,e3⟩:=dex hn (N:=m) (by omega) 0 2 24 (by decide) (by decide) (by decide)
 obtain⟨r4,p4,q4,e4⟩:=dex hn (N:=m) (by omega) 0 3 24 (by decide) (by decide) (by decide)
 obtain⟨a,c,s1,o1,g1⟩:=sort2 r1 r2
 obtain⟨b,d,s2,o2,g2⟩:=sort2 r3 r4
 refine⟨a,b,c,d,by omega,o1,by omega,by omega,o2,by omega,fun st=>call_of 20 (F:=f_law_rect) rfl rfl rfl ?_⟩
 show exs (stepEx (rn fns m 20)) b_law_rect [some (sD ns),some (.int 0),some (.int 0),some (.int 24),some (.int 24),none,none] st=_
 unfold b_law_rect
 refine(exs_cons (τ':=[some (sD ns),some (.int 0),some (.int 0),some (.int 24),some (.int 24),some (.lst [.int a,.int c]),none]) (s':=st) (stS (gc_sort (c:=callD fns m) (n:=16) (τ:=[some (sD ns),some (.int 0),some (.int 0),some (.int 24),some (.int 24),none,none]) (e1:=.call 3 [(.var 0),(.var 1),(.var 2),(.var 3)]) (e2:=.call 3 [(.var 0),(.var 1),(.bin .Add (.var 2) (.lit (.int 1))),(.var 3)]) (e1 st) (e2 st) s1) rfl)).trans ?_
 exact(exs_cons (τ':=[some (sD ns),some (.int 0),some (.int 0),some (.int 24),some (.int 24),some (.lst [.int a,.int c]),some (.lst [.int b,.int d])]) (s':=st) (stS (gc_sort (c:=callD fns m) (n:=16) (τ:=[some (sD ns),some (.int 0),some (.int 0),some (.int 24),some (.int 24),some (.lst [.int a,.int c]),none]) (e1:=.call 3 [(.var 0),(.var 1),(.bin .Add (.var 2) (.lit (.int 2))),(.var 4)]) (e2:=.call 3 [(.var 0),(.var 1),(.bin .Add (.var 2) (.lit (.int 3))),(.var 4)]) (e3 st) (e4 st) s2) rfl)).trans (exs_ret rfl)
theorem ev_cmp2{c:CF}{n:Nat}{τ:Sl}{st:Store}{x y z:E}{i j k:Int}(h1:(runK c n).ev τ st x=some (.int i,st))(h2:(runK c n).ev τ st y=some (.int j,st))(h3:(runK c n).ev τ st z=some (.int k,st)):
  (runK c (n+1)).ev τ st (.cmp2 .Lt .LtE x y z)=some (.bl (decide (i<j)&&decide (j≤k)),st):=by
 rw[ev_k]
 simp only[stepEv,h1,h2,Option.bind_some,cmpD]
 by_cases h:i<j
 ·simp only[h,decide_true,if_true,h3,Option.bind_some,cmpD,Option.map_some,Bool.true_and]
 ·simp only[h,decide_false,Bool.false_eq_true,if_false,Bool.false_and]
noncomputable def loS(a b:Int)(s:Bool):Int:=if s then b else a
noncomputable def sI(s:Bool):Int:=if s then 1 else 0
theorem can_ok{m:Nat}(st:Store)(a b c d l:Int)(s:Bool):callD fns (m+1) 1 [rD a b c d,.int (sI s),.int l] st=some (.bl (decide (loS a b s<l)&&decide (l≤loS c d s)),st):=by
 refine call_of 20 (F:=f_can_part) rfl rfl rfl ?_
 show exs (stepEx (rn fns m 20)) b_can_part [some (rD a b c d),some (.int (sI s)),some (.int l)] st=_
 unfold b_can_part
 refine ret_ok ?_
 cases s with
 |false=>exact ev_cmp2 (n:=19) (c:=callD fns m) (i:=a) (j:=l) (k:=c) rfl rfl rfl
 |true=>exact ev_cmp2 (n:=19) (c:=callD fns m) (i:=b) (j:=l) (k:=d) rfl rfl rfl
noncomputable def nearD(a b c d l:Int)(s:Bool):D:=if s then rD a b c (l - 1) else rD a b (l - 1) d
noncomputable def farD(a b c d l:Int)(s:Bool):D:=if s then rD a l c d else rD l b c d
theorem part_no{m:Nat}(st:Store)(a b c d l:Int)(s:Bool)(h:(decide (loS a b s<l)&&decide (l≤loS c d s))=false):callD fns (m+2) 2 [rD a b c d,.int (sI s),.int l] st=some (.non,st):=by
 refine call_of 20 (F:=f_parted) rfl rfl rfl ?_
 show exs (stepEx (rn fns (m+1) 20)) b_parted [some (rD a b c d),some (.int (sI s)),some (.int l),none,none] st=_
 unfold b_parted
 have g:=gc_call (c:=callD fns (m+1)) (n:=15) (τ:=[some (rD a b c d),some (.int (sI s)),some (.int l),none,none]) (st:=st) (f:=1) (es:=[(.var 0),(.var 1),(.var 2)]) (ds:=[rD a b c d,.int (sI s),.int l]) rfl (can_ok (m:=m) st a b c d l s) rfl
 rw[h]at g
 have t:(runK (callD fns (m+1)) 20).tst [some (rD a b c d),some (.int (sI s)),some (.int l),none,none] st (.not (.gc (.call 1 [(.var 0),(.var 1),(.var 2)])))=some (true,st):=by
  rw[tst_k]
  show((runK (callD fns (m+1)) 19).tst _ st (.gc (.call 1 [(.var 0),(.var 1),(.var 2)]))).map _=_
  rw[tst_k]
  show(((runK (callD fns (m+1)) 18).ev _ st (.gc (.call 1 [(.var 0),(.var 1),(.var 2)]))).bind _).map _=_
  rw[g]
  rfl
 exact exs_ret ((stepEx_ite_t (st':=st) t).trans rfl)
theorem part_yes{m:Nat}(st:Store)(a b c d l:Int)(s:Bool)(h:(decide (loS a b s<l)&&decide (l≤loS c d s))=true):callD fns (m+2) 2 [rD a b c d,.int (sI s),.int l] st=some (.tup [nearD a b c d l s,farD a b c d l s],st):=by
 refine call_of 20 (F:=f_parted) rfl rfl rfl ?_
 show exs (stepEx (rn fns (m+1) 20)) b_parted [some (rD a b c d),some (.int (sI s)),some (.int l),none,none] st=_
 unfold b_parted
 have g:=gc_call (c:=callD fns (m+1)) (n:=15) (τ:=[some (rD a b c d),some (.int (sI s)),some (.int l),none,none]) (st:=st) (f:=1) (es:=[(.var 0),(.var 1),(.var 2)]) (ds:=[rD a b c d,.int (sI s),.int l]) rfl (can_ok (m:=m) st a b c d l s) rfl
 rw[h]at g
 have t:(runK (callD fns (m+1)) 20).tst [some (rD a b c d),some (.int (sI s)),some (.int l),none,none] st (.not (.gc (.call 1 [(.var 0),(.var 1),(.var 2)])))=some (false,st):=by
  rw[tst_k]
  show((runK (callD fns (m+1)) 19).tst _ st (.gc (.call 1 [(.var 0),(.var 1),(.var 2)]))).map _=_
  rw[tst_k]
  show(((runK (callD fns (m+1)) 18).ev _ st (.gc (.call 1 [(.var 0),(.var 1),(.var 2)]))).bind _).map _=_
  rw[g]
  rfl
 refine(exs_cons (τ':=[some (rD a b c d),some (.int (sI s)),some (.int l),none,none]) (s':=st) ((stepEx_ite_f (st':=st) t).trans rfl)).trans ?_
 cases s with
 |false=>
  have t2:(rn fns (m+1) 20).tst [some (rD a b c d),some (.int (sI false)),some (.int l),none,none] st (.cmp .Eq (.var 1) (.lit (.int 0)))=some (true,st):=tCmp (c:=callD fns (m+1)) (n:=19) (x:=.int 0) (y:=.int 0) rfl rfl (eqD_ii st 0 0)
  refine(exs_cons (τ':=[some (rD a b c d),some (.int (sI false)),some (.int l),some (rD a b (l - 1) d),some (rD l b c d)]) (s':=st) ((stepEx_ite_t (st':=st) t2).trans rfl)).trans (ret_ok rfl)
 |true=>
  have t2:(rn fns (m+1) 20).tst [some (rD a b c d),some (.int (sI true)),some (.int l),none,none] st (.cmp .Eq (.var 1) (.lit (.int 0)))=some (false,st):=tCmp (c:=callD fns (m+1)) (n:=19) (x:=.int 1) (y:=.int 0) rfl rfl (eqD_ii st 1 0)
  refine(exs_cons (τ':=[some (rD a b c d),some (.int (sI true)),some (.int l),some (rD a b c (l - 1)),some (rD a l c d)]) (s':=st) ((stepEx_ite_f (st':=st) t2).trans rfl)).trans (ret_ok rfl)
noncomputable abbrev hT(ns:List Int)(r s l t:Option D):Sl:=[some (sD ns),r,s,l,t,none,none]
theorem line_ok{ns:List Int}(hn:ns.length≤63)(a b c d:Int)(ha:0≤a)(hac:a≤c)(hc:c<24)(hb:0≤b)(hbd:b≤d)(hd:d<24)(s:Bool)(l0:Int):∃ l1,
  stepEx (rn fns 19 30) (hT ns (some (rD a b c d)) (some (.int (sI s))) (some (.int l0)) none) [] (.ite (.cmp .Eq (.gc (.call 3 [(.var 0),(.lit (.int 1)),(.lit (.int 2)),(.lit (.int 2))])) (.lit (.int 0))) [.set (.var 3) (.bin .Sub (.bin .Add (.idx (.var 1) (.bin .Add (.var 2) (.bin .Mult (.lit (.int 2)) (.gc (.call 3 [(.var 0),(.lit (.int 1)),(.lit (.int 3)),(.lit (.int 2))]))))) (.gc (.call 3 [(.var 0),(.lit (.int 1)),(.lit (.int 4)),(.lit (.int 3))]))) (.lit (.int 1)))] [])=some (.nx (hT ns (some (rD a b c d)) (some (.int (sI s))) (some (.int l1)) none),[]):=by
 obtain⟨x,x0,x1,ex⟩:=dex hn (N:=19) (by omega) 1 2 2 (by decide) (by decide) (by decide)
 obtain⟨y,y0,y1,ey⟩:=dex hn (N:=19) (by omega) 1 3 2 (by decide) (by decide) (by decide)
 obtain⟨z,z0,z1,ez⟩:=dex hn (N:=19) (by omega) 1 4 3 (by decide) (by decide) (by decide)
 generalize hT':hT ns (some (rD a b c d)) (some (.int (sI s))) (some (.int l0)) none=T
 have t0:T[0]?=some (some (sD ns)):=by rw[← hT']; rfl
 have gx:=fun n=>gc_call (c:=callD fns 19) (n:=n) (τ:=T) (st:=[]) (f:=3) (es:=[(.var 0),(.lit (.int 1)),(.lit (.int 2)),(.lit (.int 2))]) (ds:=[sD ns,.int 1,.int 2,.int 2]) (evs2 (evV t0) rfl) (ex []) rfl
 have gy:=fun n=>gc_call (c:=callD fns 19) (n:=n) (τ:=T) (st:=[]) (f:=3) (es:=[(.var 0),(.lit (.int 1)),(.lit (.int 3)),(.lit (.int 2))]) (ds:=[sD ns,.int 1,.int 3,.int 2]) (evs2 (evV t0) rfl) (ey []) rfl
 have gz:=fun n=>gc_call (c:=callD fns 19) (n:=n) (τ:=T) (st:=[]) (f:=3) (es:=[(.var 0),(.lit (.int 1)),(.lit (.int 4)),(.lit (.int 3))]) (ds:=[sD ns,.int 1,.int 4,.int 3]) (evs2 (evV t0) rfl) (ez []) rfl
 have tt:=tCmp (c:=callD fns 19) (n:=29) (op:=.Eq) (b:=.lit (.int 0)) (y:=.int 0) (gx 26) rfl (eqD_ii [] x 0)
 cases hx:x==0 with
 |false=>
  rw[hx]at tt
  refine⟨l0,?_⟩
  rw[← hT']at tt ⊢
  exact(stepEx_ite_f (st':=[]) tt).trans rfl
 |true=>
  rw[hx]at tt
  obtain⟨v,hv⟩:∃ v:Int,idxD [] (rD a b c d) (.int (sI s+2*y))=some (.int v):=by
   have:y=0∨y=1:=by omega
   rcases this with rfl|rfl<;>cases s
   ·exact⟨a,rfl⟩
   ·exact⟨b,rfl⟩
   ·exact⟨c,rfl⟩
   ·exact⟨d,rfl⟩
  refine⟨v+z - 1,?_⟩
  have i1:(rn fns 19 27).ev T [] (.idx (.var 1) (.bin .Add (.var 2) (.bin .Mult (.lit (.int 2)) (.gc (.call 3 [(.var 0),(.lit (.int 1)),(.lit (.int 3)),(.lit (.int 2))])))))=some (.int v,[]):=
   evX (n:=26) (x:=rD a b c d) (by rw[← hT']; rfl) (evB (n:=25) (a:=.int (sI s)) (b:=.int (2*y)) (by rw[← hT']; rfl) (evB (n:=24) (a:=.int 2) (b:=.int y) rfl (gy 21) (bMu [] 2 (by omega) (by omega))) (pA _ _ _)) hv
  have i2:(rn fns 19 29).ev T [] (.bin .Sub (.bin .Add (.idx (.var 1) (.bin .Add (.var 2) (.bin .Mult (.lit (.int 2)) (.gc (.call 3 [(.var 0),(.lit (.int 1)),(.lit (.int 3)),(.lit (.int 2))]))))) (.gc (.call 3 [(.var 0),(.lit (.int 1)),(.lit (.int 4)),(.lit (.int 3))]))) (.lit (.int 1)))=some (.int (v+z - 1),[]):=
   evB (n:=28) (a:=.int (v+z)) (b:=.int 1) (evB (n:=27) (a:=.int v) (b:=.int z) i1 (gz 24) (pA _ _ _)) rfl rfl
  have s3:setT (.var 3) (.int (v+z - 1)) T=some (hT ns (some (rD a b c d)) (some (.int (sI s))) (some (.int (v+z - 1))) none):=by rw[← hT']; rfl
  refine(stepEx_ite_t (st':=[]) tt).trans ?_
  rw[ex_k]
  exact(exs_cons (stS i2 s3)).trans rfl
theorem dp_rD(a b c d:Int):Dp 2 (rD a b c d):=.tup (fun x hx=>by
 simp only[List.mem_cons,List.not_mem_nil,or_false]at hx
 rcases hx with rfl|rfl|rfl|rfl<;>exact .int) (by simp)
theorem dp_two{x y:D}(hx:Dp 2 x)(hy:Dp 2 y):Dp 3 (.tup [x,y]):=.tup (fun z hz=>by
 simp only[List.mem_cons,List.not_mem_nil,or_false]at hz
 rcases hz with rfl|rfl
 ·exact hx
 ·exact hy) (by simp)
theorem last_ok{T:Sl}{st:Store}(a b c d a1 b1 c1 d1 a2 b2 c2 d2:Int)(h1:T[1]?=some (some (rD a b c d)))(h4:T[4]?=some (some (.tup [rD a1 b1 c1 d1,rD a2 b2 c2 d2])))
  (L L1 L2:List (Int×Int)) (e:callD fns 19 0 [rD a b c d] st=some (.loc st.length,st++[.lst true (L.map pD)])) (e1:callD fns 19 0 [rD a1 b1 c1 d1] st=some (.loc st.length,st++[.lst true (L1.map pD)])) (e2:callD fns 19 0 [rD a2 b2 c2 d2] st=some (.loc st.length,st++[.lst true (L2.map pD)]))
  (hl:L1.length+L2.length≤1000) (hp:(L1++L2).Perm L) :
  (rn fns 19 30).ev T st (.cmp .Eq (.gc (.bcall .sorted [(.bin .Add (.gc (.call 0 [(.idx (.var 4) (.lit (.int 0)))])) (.gc (.call 0 [(.idx (.var 4) (.lit (.int 1)))])))])) (.gc (.bcall .sorted [(.gc (.call 0 [(.var 1)]))])))=some (.bl true,st):=by
 have v4:∀ n:Nat,(rn fns 19 (n+1)).ev T st (.var 4)=some (.tup [rD a1 b1 c1 d1,rD a2 b2 c2 d2],st):=fun n=>evV h4
 have g1:=gc_cells (m:=18) (n:=23) (τ:=T) (st:=st) (e:=.idx (.var 4) (.lit (.int 0))) a1 b1 c1 d1 (evX (n:=23) (y:=.int 0) (v4 22) rfl rfl) L1 e1
 have g2:=gc_cells (m:=18) (n:=23) (τ:=T) (st:=st) (e:=.idx (.var 4) (.lit (.int 1))) a2 b2 c2 d2 (evX (n:=23) (y:=.int 1) (v4 22) rfl rfl) L2 e2
 have g3:=gc_cells (m:=18) (n:=24) (τ:=T) (st:=st) (e:=.var 1) a b c d (evV h1) L e
 have s1:(rn fns 19 29).ev T st (.gc (.bcall .sorted [(.bin .Add (.gc (.call 0 [(.idx (.var 4) (.lit (.int 0)))])) (.gc (.call 0 [(.idx (.var 4) (.lit (.int 1)))])))]))=some (.lst ((sortP (L1++L2)).map pD),st):=srt_sum (n:=26) g1 g2 hl
 have s2:(rn fns 19 29).ev T st (.gc (.bcall .sorted [(.gc (.call 0 [(.var 1)]))]))=some (.lst ((sortP L).map pD),st):=srt_one (n:=27) g3
 rw[sortP_eq hp]at s1
 have s1':(runK (callD fns 19) 29).ev T st _=_:=s1
 have s2':(runK (callD fns 19) 29).ev T st _=_:=s2
 show(runK (callD fns 19) 30).ev T st _=_
 rw[ev_k]
 simp only[stepEv,s1',s2',Option.bind_some,cmpD,eq_pairs,Option.map_some]
noncomputable def endB:List S:=b_law.drop 6
theorem not_t{c:CF}{n:Nat}{τ:Sl}{st:Store}{e:E}{k:Bool}(h:(runK c n).tst τ st e=some (k,st)):(runK c (n+1)).tst τ st (.not e)=some (!k,st):=by
 rw[tst_k]
 simp only[stepTst,h,Option.map_some]
theorem end_ok{ns:List Int}(a b c d l:Int)(s:Bool)(L L1 L2:List (Int×Int))(a1 b1 c1 d1 a2 b2 c2 d2:Int)(hN:nearD a b c d l s=rD a1 b1 c1 d1)(hF:farD a b c d l s=rD a2 b2 c2 d2)
  (e:∀ st,callD fns 19 0 [rD a b c d] st=some (.loc st.length,st++[.lst true (L.map pD)])) (e1:∀ st,callD fns 19 0 [rD a1 b1 c1 d1] st=some (.loc st.length,st++[.lst true (L1.map pD)])) (e2:∀ st,callD fns 19 0 [rD a2 b2 c2 d2] st=some (.loc st.length,st++[.lst true (L2.map pD)]))
  (hl:L1.length+L2.length≤1000) (hp:(L1++L2).Perm L) :
  ∃ st',exs (stepEx (rn fns 19 30)) endB [some (sD ns),some (rD a b c d),some (.int (sI s)),some (.int l),some (.tup [rD a1 b1 c1 d1,rD a2 b2 c2 d2]),none,none] []=some (.rt (.bl true),st'):=by
 let T:Sl:=[some (sD ns),some (rD a b c d),some (.int (sI s)),some (.int l),some (.tup [rD a1 b1 c1 d1,rD a2 b2 c2 d2]),some (.loc 0),some (.loc 1)]
 let B:Store:=[.lst true [.int a1,.int b1,.int c1,.int d1],.lst true [.int a2,.int b2,.int c2,.int d2]]
 have st1:exs (stepEx (rn fns 19 30)) endB [some (sD ns),some (rD a b c d),some (.int (sI s)),some (.int l),some (.tup [rD a1 b1 c1 d1,rD a2 b2 c2 d2]),none,none] []=exs (stepEx (rn fns 19 30)) (b_law.drop 10) T B:=by
  cases s with
  |false=>cases hN; cases hF; rfl
  |true=>cases hN; cases hF; rfl
 have sm:=same_eq hSame (dp_two (dp_rD a1 b1 c1 d1) (dp_rD a2 b2 c2 d2)) 19 B (by omega)
 have g:=gc_call (c:=callD fns 19) (n:=25) (τ:=T) (st:=B) (f:=4) (es:=[(.var 4),(.tup [(.bcall .tuple [(.var 5)]),(.bcall .tuple [(.var 6)])])]) rfl sm rfl
 have t:=not_t (c:=callD fns 19) (n:=29) (τ:=T) (st:=B) (e:=.gc (.call 4 [(.var 4),(.tup [(.bcall .tuple [(.var 5)]),(.bcall .tuple [(.var 6)])])])) (k:=true) (by
  rw[tst_k]
  show((runK (callD fns 19) 28).ev T B (.gc (.call 4 [(.var 4),(.tup [(.bcall .tuple [(.var 5)]),(.bcall .tuple [(.var 6)])])]))).bind _=_
  rw[g]
  rfl)
 have la:=last_ok (T:=T) (st:=B) a b c d a1 b1 c1 d1 a2 b2 c2 d2 rfl rfl L L1 L2 (e B) (e1 B) (e2 B) hl hp
 refine⟨B,st1.trans ?_⟩
 exact(exs_cons (τ':=T) (s':=B) ((stepEx_ite_f (st':=B) t).trans rfl)).trans (ret_ok la)
theorem tst_cmp2{c:CF}{n:Nat}{τ:Sl}{st:Store}{x y z:E}{i j k:Int}(h1:(runK c n).ev τ st x=some (.int i,st))(h2:(runK c n).ev τ st y=some (.int j,st))(h3:(runK c n).ev τ st z=some (.int k,st)):
  (runK c (n+1)).tst τ st (.cmp2 .Lt .LtE x y z)=some (decide (i<j)&&decide (j≤k),st):=by
 rw[tst_k]
 simp only[stepTst,h1,h2,Option.bind_some,cmpD]
 by_cases h:i<j
 ·simp only[h,decide_true,if_true,h3,Option.bind_some,cmpD,Option.map_some,Bool.true_and]
 ·simp only[h,decide_false,Bool.false_eq_true,if_false,Bool.false_and]
theorem law_ok(ns:List Int)(hn:ns.length≤63):∃ st',callD fns 20 6 [.lst (ns.map D.int)] []=some (.bl true,st'):=by
 obtain⟨a,b,c,d,ha,hac,hc,hb,hbd,hd,er⟩:=rect_ok hn (m:=19) (by omega)
 obtain⟨v,v0,v1,ev⟩:=dex hn (N:=19) (by omega) 1 0 2 (by decide) (by decide) (by decide)
 obtain⟨w,w0,w1,ew⟩:=dex hn (N:=19) (by omega) 1 1 29 (by decide) (by decide) (by decide)
 obtain⟨s,rfl⟩:∃ s:Bool,v=sI s:=by
  have:v=0∨v=1:=by omega
  rcases this with rfl|rfl
  ·exact⟨false,rfl⟩
  ·exact⟨true,rfl⟩
 obtain⟨l,el⟩:=line_ok hn a b c d ha hac hc hb hbd hd s (w - 2)
 have q1:stepEx (rn fns 19 30) (hT ns none none none none) [] (.set (.var 1) (.gc (.call 5 [(.var 0),(.lit (.int 0)),(.lit (.int 0)),(.lit (.int 24)),(.lit (.int 24))])))=some (.nx (hT ns (some (rD a b c d)) none none none),[]):=stS (gc_call (n:=27) (ds:=[sD ns,.int 0,.int 0,.int 24,.int 24]) rfl (er []) rfl) rfl
 have q2:stepEx (rn fns 19 30) (hT ns (some (rD a b c d)) none none none) [] (.set (.var 2) (.gc (.call 3 [(.var 0),(.lit (.int 1)),(.lit (.int 0)),(.lit (.int 2))])))=some (.nx (hT ns (some (rD a b c d)) (some (.int (sI s))) none none),[]):=stS (gc_call (n:=27) (ds:=[sD ns,.int 1,.int 0,.int 2]) rfl (ev []) rfl) rfl
 have q3:stepEx (rn fns 19 30) (hT ns (some (rD a b c d)) (some (.int (sI s))) none none) [] (.set (.var 3) (.bin .Sub (.gc (.call 3 [(.var 0),(.lit (.int 1)),(.lit (.int 1)),(.lit (.int 29))])) (.lit (.int 2))))=some (.nx (hT ns (some (rD a b c d)) (some (.int (sI s))) (some (.int (w - 2))) none),[]):=
  stS (evB (n:=29) (a:=.int w) (b:=.int 2) (gc_call (n:=26) (ds:=[sD ns,.int 1,.int 1,.int 29]) rfl (ew []) rfl) rfl rfl) rfl
 have c2:∀ t,(rn fns 19 29).tst (hT ns (some (rD a b c d)) (some (.int (sI s))) (some (.int l)) t) [] (.cmp2 .Lt .LtE (.idx (.var 1) (.var 2)) (.var 3) (.idx (.var 1) (.bin .Add (.var 2) (.lit (.int 2)))))=some (decide (loS a b s<l)&&decide (l≤loS c d s),[]):=fun t=>by
  cases s with
  |false=>exact tst_cmp2 (n:=28) (c:=callD fns 19) (i:=a) (j:=l) (k:=c) rfl rfl rfl
  |true=>exact tst_cmp2 (n:=28) (c:=callD fns 19) (i:=b) (j:=l) (k:=d) rfl rfl rfl
 have q5:∀ t,noLoc t=true→callD fns 19 2 [rD a b c d,.int (sI s),.int l] []=some (t,[])→stepEx (rn fns 19 30) (hT ns (some (rD a b c d)) (some (.int (sI s))) (some (.int l)) none) [] (.set (.var 4) (.gc (.call 2 [(.var 1),(.var 2),(.var 3)])))=some (.nx (hT ns (some (rD a b c d)) (some (.int (sI s))) (some (.int l)) (some t)),[]):=fun t ht h=>stS (gc_call (n:=27) (ds:=[rD a b c d,.int (sI s),.int l]) rfl h ht) rfl
 have go:∀ t st',noLoc t=true→callD fns 19 2 [rD a b c d,.int (sI s),.int l] []=some (t,[])→exs (stepEx (rn fns 19 30)) (b_law.drop 5) (hT ns (some (rD a b c d)) (some (.int (sI s))) (some (.int l)) (some t)) []=some (.rt (.bl true),st')→callD fns 20 6 [.lst (ns.map D.int)] []=some (.bl true,st'):=fun t st' ht h h'=>
  call_of 30 (F:=f_law) rfl rfl rfl ((exs_cons q1).trans ((exs_cons q2).trans ((exs_cons q3).trans ((exs_cons el).trans ((exs_cons (q5 t ht h)).trans h')))))
 cases h:(decide (loS a b s<l)&&decide (l≤loS c d s)) with
 |false=>
  have t6:=not_t (c:=callD fns 19) (n:=29) (c2 (some .non))
  rw[h]at t6
  exact⟨[],go .non [] rfl (part_no (m:=17) [] a b c d l s h) (exs_ret ((stepEx_ite_t (st':=[]) t6).trans rfl))⟩
 |true=>
  have h0:=h
  rw[Bool.and_eq_true,decide_eq_true_eq,decide_eq_true_eq]at h0
  have K:=fun(x y z u:Int) (x0:-100≤x) (x1:x≤100) (y0:-100≤y) (y1:y≤100) (z0:-100≤z) (z1:z≤100) (u0:-100≤u) (u1:u≤100) (p:(z+1 - x).toNat≤24) (q:(u+1 - y).toNat≤24) (st:Store)=>cells_ok (m:=18) st x y z u x0 x1 y0 y1 z0 z1 u0 u1 p q
  have t6:=fun t=>not_t (c:=callD fns 19) (n:=29) (c2 t)
  rw[h]at t6
  cases s with
  |false=>
   have g1:a<l:=h0.1
   have g2:l≤c:=h0.2
   obtain⟨u,hu⟩:∃ u:Nat,l=a+(u:Int):=⟨(l - a).toNat,by omega⟩
   obtain⟨v',hv⟩:∃ v':Nat,c+1=l+(v':Int):=⟨(c+1 - l).toNat,by omega⟩
   have n1:(l - 1+1 - a).toNat=u:=by omega
   have n2:(c+1 - l).toNat=v':=by omega
   have n3:(c+1 - a).toNat=u+v':=by omega
   have k0:=K a b c d (by omega) (by omega) (by omega) (by omega) (by omega) (by omega) (by omega) (by omega) (by omega) (by omega)
   have k1:=K a b (l - 1) d (by omega) (by omega) (by omega) (by omega) (by omega) (by omega) (by omega) (by omega) (by omega) (by omega)
   have k2:=K l b c d (by omega) (by omega) (by omega) (by omega) (by omega) (by omega) (by omega) (by omega) (by omega) (by omega)
   rw[n1]at k1
   rw[n2]at k2
   rw[n3]at k0
   have pm:=cell_x a b u v' (d+1 - b).toNat
   rw[← hu]at pm
   have ln:(cellL a b u (d+1 - b).toNat).length+(cellL l b v' (d+1 - b).toNat).length≤1000:=by
    rw[cellL_len,cellL_len,← Nat.mul_add]
    exact Nat.le_trans (Nat.mul_le_mul (show(d+1 - b).toNat≤24 by omega) (show u+v'≤24 by omega)) (by decide)
   obtain⟨st',E⟩:=end_ok (ns:=ns) a b c d l false _ _ _ a b (l - 1) d l b c d rfl rfl k0 k1 k2 ln pm
   exact⟨st',go _ st' rfl (part_yes (m:=17) [] a b c d l false h) ((exs_cons ((stepEx_ite_f (st':=[]) (t6 _)).trans rfl)).trans E)⟩
  |true=>
   have g1:b<l:=h0.1
   have g2:l≤d:=h0.2
   obtain⟨u,hu⟩:∃ u:Nat,l=b+(u:Int):=⟨(l - b).toNat,by omega⟩
   obtain⟨v',hv⟩:∃ v':Nat,d+1=l+(v':Int):=⟨(d+1 - l).toNat,by omega⟩
   have n1:(l - 1+1 - b).toNat=u:=by omega
   have n2:(d+1 - l).toNat=v':=by omega
   have n3:(d+1 - b).toNat=u+v':=by omega
   have k0:=K a b c d (by omega) (by omega) (by omega) (by omega) (by omega) (by omega) (by omega) (by omega) (by omega) (by omega)
   have k1:=K a b c (l - 1) (by omega) (by omega) (by omega) (by omega) (by omega) (by omega) (by omega) (by omega) (by omega) (by omega)
   have k2:=K a l c d (by omega) (by omega) (by omega) (by omega) (by omega) (by omega) (by omega) (by omega) (by omega) (by omega)
   rw[n1]at k1
   rw[n2]at k2
   rw[n3]at k0
   have pm:=cell_y a b (c+1 - a).toNat u v'
   rw[← hu]at pm
   have ln:(cellL a b (c+1 - a).toNat u).length+(cellL a l (c+1 - a).toNat v').length≤1000:=by
    rw[cellL_len,cellL_len,← Nat.add_mul]
    exact Nat.le_trans (Nat.mul_le_mul (show u+v'≤24 by omega) (show(c+1 - a).toNat≤24 by omega)) (by decide)
   obtain⟨st',E⟩:=end_ok (ns:=ns) a b c d l true _ _ _ a b c (l - 1) a l c d rfl rfl k0 k1 k2 ln (by rw[pm])
   exact⟨st',go _ st' rfl (part_yes (m:=17) [] a b c d l true h) ((exs_cons ((stepEx_ite_f (st':=[]) (t6 _)).trans rfl)).trans E)⟩
end K02
end
section
namespace MS
open PySem PySem.Spec PyProof.Rows L2
theorem noFill_tuple_mul:fillsNumberSlot (.type "tuple") "mul" = pure false:=
 PySem.fillsNumberSlot_seq (id:="tuple.__mul__") (r:=some (.builtin "tuple.__rmul__")) F.slot_tuple_mul.lookup (by decide +kernel) F.slot_tuple_rmul.lookup (by decide +kernel)
theorem repeat_tuple:seqRepeat? (.type "tuple")=pure (some (.builtin "tuple.__mul__")):=by
 unfold seqRepeat?
 rw[PySem.seqSlot_of (T:="tuple") (name:="__mul__") (id:="tuple.__mul__") F.slot_tuple_mul.lookup (by decide +kernel),PySem.seqSlot_of (T:="tuple") (name:="__rmul__") (id:="tuple.__rmul__") F.slot_tuple_rmul.lookup (by decide +kernel)]
 rfl
theorem int_rmul_tuple(a:Int)(t:Tok)(l:Addr)(items:Array Value)(n:Nat)(dd:Option Addr)(sl:Array (Option Value)):
  Meets (Builtin.«int.__rmul__» ⟨[.int a t,.ref l],[]⟩) (fun _ R s=>s.heap.get? l=some { cls:=.type "tuple",dict:=dd,data:=.seq items n,slots:=sl }∧R (.ok (.ret Value.notImplemented)) s):=
 .of_wp fun prog w A R s h=>by obtain⟨hp,g,d,tk,os⟩:=s; obtain⟨hl,h⟩:=h; wp_walk; exact⟨_,rfl,h⟩
theorem tuple_mul_same(l:Addr)(items:Array Value)(n:Nat)(dd:Option Addr)(sl:Array (Option Value))(x:Int)(u:Tok)(h0:¬ (decide (x < -(2 ^ 63))||decide (x ≥ 2 ^ 63))=true)(h1:(items.isEmpty||x==1)=true):
  Meets (Builtin.«tuple.__mul__» ⟨[.ref l,.int x u],[]⟩) (fun _ R s=>s.heap.get? l=some { cls:=.type "tuple",dict:=dd,data:=.seq items n,slots:=sl }∧R (.ok (.ret (Value.ref l))) s):=
 .of_wp fun prog w A R s h=>by
  obtain⟨hp,g,d,tk,os⟩:=s; obtain⟨hl,h⟩:=h
  wp_walk
  simp only[if_neg h0]
  wp_walk
  exact⟨_,rfl,h⟩
theorem tuple_mul_none(l:Addr)(items:Array Value)(n:Nat)(dd:Option Addr)(sl:Array (Option Value))(x:Int)(u:Tok)(h0:¬ (decide (x < -(2 ^ 63))||decide (x ≥ 2 ^ 63))=true)(h1:¬ (items.isEmpty||x==1)=true)(h2:(decide (x≤0)||items.isEmpty)=true):
  Meets (Builtin.«tuple.__mul__» ⟨[.ref l,.int x u],[]⟩) (fun _ R s=>s.heap.get? l=some { cls:=.type "tuple",dict:=dd,data:=.seq items n,slots:=sl }∧R (.ok (.ret (Value.ref s.heap.objs.size))) { s with heap:=s.heap.push { cls:=.type "tuple",data:=.seq #[] } }):=
 .of_wp fun prog w A R s h=>by
  obtain⟨hp,g,d,tk,os⟩:=s; obtain⟨hl,h⟩:=h
  wp_walk
  simp only[if_neg h0]
  wp_walk
  exact⟨_,rfl,h⟩
theorem tuple_mul_more(l:Addr)(items:Array Value)(n:Nat)(dd:Option Addr)(sl:Array (Option Value))(x:Int)(u:Tok)(h0:¬ (decide (x < -(2 ^ 63))||decide (x ≥ 2 ^ 63))=true)(h1:¬ (items.isEmpty||x==1)=true)(h2:¬ (decide (x≤0)||items.isEmpty)=true)
  (h3:¬ ((items.size:Int)*x > (2 ^ 63 - 1) / 8)) (h4:¬ Builtin.Tuple.tupleTooMany ((items.size:Int)*x)=true) (h5:(List.foldl (fun x1 x2=>x1++x2) #[] (List.replicate x.toNat items)).size≤sizeLine) :
  Meets (Builtin.«tuple.__mul__» ⟨[.ref l,.int x u],[]⟩) (fun _ R s=>s.heap.get? l=some { cls:=.type "tuple",dict:=dd,data:=.seq items n,slots:=sl }∧R (.ok (.ret (Value.ref s.heap.objs.size))) { s with heap:=s.heap.push { cls:=.type "tuple",data:=.seq (List.foldl (fun x1 x2=>x1++x2) #[] (List.replicate x.toNat items)) } }):=
 .of_wp fun prog w A R s h=>by
  obtain⟨hp,g,d,tk,os⟩:=s; obtain⟨hl,h⟩:=h
  wp_walk
  simp only[if_neg h0]
  wp_walk
  simp only[if_neg h3]
  wp_walk
  exact⟨_,rfl,h⟩
noncomputable def rRepT(K:PySem.W.Frag):R2:=fun x y H Q=>∃ l k xs,x=.ref l∧y=.int k∧SqT K H l xs∧-(2 ^ 62)≤k∧k<2 ^ 62∧xs.length*k.toNat≤sizeLine∧
 (∀ ys,ys=(List.replicate k.toNat xs).flatten→(ys=xs→Q (.ref l) H)∧∀ p,H p=none→Q (.ref p) (upd H p (.tup ys)))
theorem op_repT{X:Cx}:OpR X (binaryOp .Mult) (rRepT X.K):=by
 intro pins s σ H x y v u Q I rx ry h
 obtain⟨l,k,xs,rfl,rfl,hq,k1,k2,hz,q⟩:=h
 cases rx
 obtain⟨t,rfl⟩:=ry
 obtain⟨its,r,hp,hz0⟩:=I.tuple hq
 obtain⟨⟨cls,dd,data,sl⟩,ho,hc,n,hd⟩:=id hp
 simp only at hc hd
 subst hc hd
 have hl:=r.length
 obtain⟨qs,qn⟩:=q _ rfl
 have f0:∀ m:Nat,List.foldl (fun x1 x2=>x1++x2) #[] (List.replicate m its.toArray)=(List.replicate m its).flatten.toArray:=fun m=>by
  have:=foldl_rep its m []
  rw[List.nil_append]at this
  exact this
 have h0:¬ (decide (k < -(2 ^ 63))||decide (k ≥ 2 ^ 63))=true:=by simp; omega
 refine wpAny_binaryOp_repeat_ref (T:="tuple") (U:="int") (by decide) ⟨_,ho,rfl⟩ (fun s'=>typeIs_int s' k t) noFill_tuple_mul F.fills_int_mul F.slot_int_rmul repeat_tuple F.slot_int_index.lookup
  (call_meets F.slot_int_rmul (typeIs_int s k t) F.entry_int_rmul (F.args_int_rmul_2 _ _) (int_rmul_tuple k t l its.toArray n dd sl) ⟨ho,rfl,⟨_,ho,rfl⟩,?_⟩)
 by_cases h1:(its.toArray.isEmpty||k==1)=true
 ·refine call_meets F.slot_tuple_mul ⟨_,ho,rfl⟩ F.entry_tuple_mul (F.args_tuple_mul_2 _ _) (tuple_mul_same l its.toArray n dd sl k t h0 h1) ⟨ho,?_⟩
  refine⟨.ref l,H,I,rfl,qs ?_⟩
  rw[Bool.or_eq_true]at h1
  rcases h1 with z|z
  ·have e1:its=[]:=by simpa using z
   have e2:xs=[]:=List.length_eq_zero_iff.mp (by rw[hl,e1]; rfl)
   rw[e2]
   simp
  ·have e1:k=1:=by simpa using z
   rw[e1]
   simp
 ·have hne:its≠[]:=fun z=>h1 (by rw[z]; rfl)
  by_cases h2:(decide (k≤0)||its.toArray.isEmpty)=true
  ·refine call_meets F.slot_tuple_mul ⟨_,ho,rfl⟩ F.entry_tuple_mul (F.args_tuple_mul_2 _ _) (tuple_mul_none l its.toArray n dd sl k t h0 h1 h2) ⟨ho,?_⟩
   have hk:k≤0:=by
    rw[Bool.or_eq_true]at h2
    rcases h2 with z|z
    ·simpa using z
    ·exact absurd (by simpa using z) hne
   have e0:k.toNat=0:=by omega
   refine⟨.ref _,_,I.laid (a:=s.heap.objs.size) (o:=.tup (List.replicate k.toNat xs).flatten) (t':=s.toks) (fun _ _ e=>Heap.get?_push_of_some _ e) (Nat.le_refl _) ?_,rfl,qn _ I.fresh⟩
   rw[e0]
   exact⟨Nat.zero_le _,[],.nil,IsTup.new s.heap _⟩
  ·have hk:0<k:=by
    simp at h2; omega
   have hmul:((its.toArray.size:Nat):Int)*k=((its.length*k.toNat:Nat):Int):=by
    rw[List.size_toArray,Int.natCast_mul]
    congr 1
    omega
   have hz':its.length*k.toNat≤sizeLine:=by rw[← hl]; exact hz
   have hsl:(sizeLine:Nat)<2 ^ 60:=by rw[sizeLine_eq]; decide
   refine call_meets F.slot_tuple_mul ⟨_,ho,rfl⟩ F.entry_tuple_mul (F.args_tuple_mul_2 _ _) (tuple_mul_more l its.toArray n dd sl k t h0 h1 h2 ?_ ?_ ?_) ⟨ho,?_⟩
   ·rw[hmul]; omega
   ·unfold Builtin.Tuple.tupleTooMany
    rw[hmul,decide_eq_true_eq]
    omega
   ·rw[f0,List.size_toArray,len_rep,Nat.mul_comm]; exact hz'
   ·refine⟨.ref _,_,I.laid (a:=s.heap.objs.size) (o:=.tup (List.replicate k.toNat xs).flatten) (t':=s.toks) (fun _ _ e=>Heap.get?_push_of_some _ e) (Nat.le_refl _) ?_,rfl,qn _ I.fresh⟩
    rw[f0]
    exact⟨by rw[len_rep,Nat.mul_comm]; exact hz,_,r.rep k.toNat,IsTup.new s.heap _⟩
section
variable {prog:Program}{w:World}{A:Around}{E:Value→Shared→Prop}{s:Shared}
end
end MS
end
section
namespace MS
open PySem PySem.Spec PyProof.Rows L2
open M (D Cell Store Sl)
def SqF(K:PySem.W.Frag)(H:Hp)(a:Addr)(xs:List V):Prop:=
 (∃ o,H a=some (.frz o (.lst xs)))∨∃ (o:Obj) (its:Array Value) (n:Nat),K.lookup a=some o∧o.cls=.type "list"∧o.dict=none∧o.data=.seq its n∧its.size≤sizeLine∧Vals xs its.toList
mutual
noncomputable def IsD(K:PySem.W.Frag)(m:List Addr)(H:Hp):D→V→Prop
 |.non,v=>v=.non
 |.bl b,v=>v=.bl b
 |.int i,v=>v=.int i
 |.str s,v=>v=.str s
 |.tup ds,v=>∃ a xs,v=.ref a∧SqT K H a xs∧IsDs K m H ds xs
 |.lst ds,v=>∃ a xs,v=.ref a∧SqF K H a xs∧IsDs K m H ds xs
 |.loc l,v=>∃ a,m[l]?=some a∧v=.ref a
noncomputable def IsDs(K:PySem.W.Frag)(m:List Addr)(H:Hp):List D→List V→Prop
 |[],xs=>xs=[]
 |d::ds,xs=>∃ x r,xs=x::r∧IsD K m H d x∧IsDs K m H ds r
end
def Sub(m m':List Addr):Prop:=∀ (l:Nat) (a:Addr),m[l]?=some a→m'[l]?=some a
structure Tr (H H':Hp):Prop where
 tup:∀ b xs,H b=some (.tup xs)→H' b=some (.tup xs)
 frz:∀ b o u,H b=some (.frz o u)→H' b=some (.frz o u)
theorem Sub.refl(m:List Addr):Sub m m:=fun _ _ h=>h
theorem Sub.trans{m m1 m2:List Addr}(a:Sub m m1)(b:Sub m1 m2):Sub m m2:=fun l x h=>b l x (a l x h)
theorem Sub.app(m r:List Addr):Sub m (m++r):=fun l a h=>by
 rw[List.getElem?_append_left (List.getElem?_eq_some_iff.mp h).1]; exact h
theorem Tr.refl(H:Hp):Tr H H:=⟨fun _ _ h=>h,fun _ _ _ h=>h⟩
theorem Tr.trans{H H1 H2:Hp}(a:Tr H H1)(b:Tr H1 H2):Tr H H2:=⟨fun c xs h=>b.tup c xs (a.tup c xs h),fun c o u h=>b.frz c o u (a.frz c o u h)⟩
theorem Tr.of_same{H H':Hp}(h:Same H H'):Tr H H':=⟨fun b xs e=>h b _ e,fun b o u e=>h b _ e⟩
theorem same_new{H:Hp}{p:Addr}{o:HO}(hp:H p=none):Same H (upd H p o):=fun b u e=>by
 rw[upd_ne (ne_of_none e hp)]; exact e
theorem Tr.put{H:Hp}{p:Addr}{xs ys:List V}(hp:H p=some (.lst xs)):Tr H (upd H p (.lst ys)):=
 ⟨fun b zs e=>by rw[upd_ne (ne_of e hp (by intro z; cases z))]; exact e,fun b o u e=>by rw[upd_ne (ne_of e hp (by intro z; cases z))]; exact e⟩
theorem Tr.sqT{K:PySem.W.Frag}{H H':Hp}{a:Addr}{xs:List V}(t:Tr H H')(h:SqT K H a xs):SqT K H' a xs:=by
 rcases h with (h|⟨o,h⟩)|h
 ·exact .inl (.inl (t.tup _ _ h))
 ·exact .inl (.inr ⟨o,t.frz _ _ _ h⟩)
 ·exact .inr h
theorem SqF.sq{K:PySem.W.Frag}{H:Hp}{a:Addr}{xs:List V}(h:SqF K H a xs):SqL K H a xs:=by
 rcases h with h|h
 ·exact .inl (.inr h)
 ·exact .inr h
theorem Tr.sqF{K:PySem.W.Frag}{H H':Hp}{a:Addr}{xs:List V}(t:Tr H H')(h:SqF K H a xs):SqF K H' a xs:=by
 rcases h with⟨o,h⟩|h
 ·exact .inl ⟨o,t.frz _ _ _ h⟩
 ·exact .inr h
section
variable {K:PySem.W.Frag}{m m':List Addr}{H H':Hp}
mutual
theorem isD_mono(hs:Sub m m')(ht:Tr H H'):∀ (d:D) (v:V),IsD K m H d v→IsD K m' H' d v
 |.non,_,h=>h
 |.bl _,_,h=>h
 |.int _,_,h=>h
 |.str _,_,h=>h
 |.tup ds,_,h=>by
  unfold IsD at h ⊢
  obtain⟨a,xs,e,q,r⟩:=h
  exact⟨a,xs,e,ht.sqT q,isDs_mono hs ht ds xs r⟩
 |.lst ds,_,h=>by
  unfold IsD at h ⊢
  obtain⟨a,xs,e,q,r⟩:=h
  exact⟨a,xs,e,ht.sqF q,isDs_mono hs ht ds xs r⟩
 |.loc l,_,h=>by
  unfold IsD at h ⊢
  obtain⟨a,e,q⟩:=h
  exact⟨a,hs l a e,q⟩
theorem isDs_mono(hs:Sub m m')(ht:Tr H H'):∀ (ds:List D) (xs:List V),IsDs K m H ds xs→IsDs K m' H' ds xs
 |[],_,h=>h
 |d::ds,_,h=>by
  unfold IsDs at h ⊢
  obtain⟨x,r,e,q,t⟩:=h
  exact⟨x,r,e,isD_mono hs ht d x q,isDs_mono hs ht ds r t⟩
end
theorem IsD.int{i:Int}{v:V}(h:IsD K m H (.int i) v):v=.int i:=by unfold IsD at h; exact h
theorem IsD.bl{i:Bool}{v:V}(h:IsD K m H (.bl i) v):v=.bl i:=by unfold IsD at h; exact h
theorem IsD.str{i:Str}{v:V}(h:IsD K m H (.str i) v):v=.str i:=by unfold IsD at h; exact h
theorem IsD.non{v:V}(h:IsD K m H .non v):v=.non:=by unfold IsD at h; exact h
theorem IsD.tup{ds:List D}{v:V}(h:IsD K m H (.tup ds) v):∃ a xs,v=.ref a∧SqT K H a xs∧IsDs K m H ds xs:=by unfold IsD at h; exact h
theorem IsD.lst{ds:List D}{v:V}(h:IsD K m H (.lst ds) v):∃ a xs,v=.ref a∧SqF K H a xs∧IsDs K m H ds xs:=by unfold IsD at h; exact h
theorem IsD.loc{l:Nat}{v:V}(h:IsD K m H (.loc l) v):∃ a,m[l]?=some a∧v=.ref a:=by unfold IsD at h; exact h
theorem mkInt(i:Int):IsD K m H (.int i) (.int i):=by unfold IsD; rfl
theorem mkBl(i:Bool):IsD K m H (.bl i) (.bl i):=by unfold IsD; rfl
theorem mkStr(i:Str):IsD K m H (.str i) (.str i):=by unfold IsD; rfl
theorem mkNon:IsD K m H .non .non:=by unfold IsD; rfl
theorem mkTup{ds:List D}{a:Addr}{xs:List V}(h:SqT K H a xs)(q:IsDs K m H ds xs):IsD K m H (.tup ds) (.ref a):=by unfold IsD; exact⟨a,xs,rfl,h,q⟩
theorem mkLst{ds:List D}{a:Addr}{xs:List V}(h:SqF K H a xs)(q:IsDs K m H ds xs):IsD K m H (.lst ds) (.ref a):=by unfold IsD; exact⟨a,xs,rfl,h,q⟩
theorem mkLoc{l:Nat}{a:Addr}(h:m[l]?=some a):IsD K m H (.loc l) (.ref a):=by unfold IsD; exact⟨a,h,rfl⟩
theorem IsDs.nil{xs:List V}(h:IsDs K m H [] xs):xs=[]:=by unfold IsDs at h; exact h
theorem IsDs.cons{d:D}{ds:List D}{xs:List V}(h:IsDs K m H (d::ds) xs):∃ x r,xs=x::r∧IsD K m H d x∧IsDs K m H ds r:=by unfold IsDs at h; exact h
theorem mkNil:IsDs K m H [] []:=by unfold IsDs; rfl
theorem mkCons{d:D}{ds:List D}{x:V}{r:List V}(h:IsD K m H d x)(t:IsDs K m H ds r):IsDs K m H (d::ds) (x::r):=by unfold IsDs; exact⟨x,r,rfl,h,t⟩
theorem IsDs.one{d:D}{xs:List V}(h:IsDs K m H [d] xs):∃ x,xs=[x]∧IsD K m H d x:=by
 obtain⟨x,r,rfl,q,t⟩:=h.cons
 rw[t.nil]
 exact⟨x,rfl,q⟩
theorem IsDs.two{d e:D}{xs:List V}(h:IsDs K m H [d,e] xs):∃ x y,xs=[x,y]∧IsD K m H d x∧IsD K m H e y:=by
 obtain⟨x,r,rfl,q,t⟩:=h.cons
 obtain⟨y,rfl,q'⟩:=t.one
 exact⟨x,y,rfl,q,q'⟩
theorem IsDs.length:∀ {ds:List D}{xs:List V},IsDs K m H ds xs→ds.length=xs.length
 |[],_,h=>by rw[h.nil]; rfl
 |_::_,_,h=>by
  obtain⟨x,r,rfl,_,t⟩:=h.cons
  rw[List.length_cons,List.length_cons,t.length]
theorem IsDs.get:∀ {ds:List D}{xs:List V}{i:Nat}{d:D},IsDs K m H ds xs→ds[i]?=some d→∃ x,xs[i]?=some x∧IsD K m H d x
 |[],_,_,_,_,e=>by simp at e
 |d::ds,_,0,d',h,e=>by
  obtain⟨x,r,rfl,q,_⟩:=h.cons
  have e':d=d':=by simpa using e
  subst e'
  exact⟨x,rfl,q⟩
 |d::ds,_,i+1,d',h,e=>by
  obtain⟨x,r,rfl,_,t⟩:=h.cons
  obtain⟨y,e1,e2⟩:=t.get (i:=i) (d:=d') (by simpa using e)
  exact⟨y,by simpa using e1,e2⟩
theorem IsDs.back:∀ {ds:List D}{xs:List V}{i:Nat}{x:V},IsDs K m H ds xs→xs[i]?=some x→∃ d,ds[i]?=some d∧IsD K m H d x:=fun {ds xs i x} h e=>by
 have hl:=h.length
 have hi:=(List.getElem?_eq_some_iff.mp e).1
 have e2:ds[i]?=some (ds[i]'(by omega)):=by simp
 obtain⟨y,e3,q⟩:=h.get e2
 rw[e]at e3
 cases e3
 exact⟨_,e2,q⟩
theorem IsDs.append:∀ {ds es:List D}{xs ys:List V},IsDs K m H ds xs→IsDs K m H es ys→IsDs K m H (ds++es) (xs++ys)
 |[],_,_,_,h,q=>by rw[h.nil]; exact q
 |_::_,_,_,_,h,q=>by
  obtain⟨x,r,rfl,a,t⟩:=h.cons
  exact mkCons a (t.append q)
theorem IsDs.set:∀ {ds:List D}{xs:List V}(i:Nat){d:D}{x:V},IsDs K m H ds xs→IsD K m H d x→IsDs K m H (ds.set i d) (xs.set i x)
 |[],_,_,_,_,h,_=>by rw[h.nil]; exact mkNil
 |_::_,_,0,_,_,h,q=>by
  obtain⟨x,r,rfl,a,t⟩:=h.cons
  exact mkCons q t
 |_::_,_,i+1,_,_,h,q=>by
  obtain⟨x,r,rfl,a,t⟩:=h.cons
  exact mkCons a (t.set i q)
end
noncomputable def keyOf:D→Option Key
 |.int i=>some (.inl i)
 |.str z=>some (.inr z)
 |_=>none
noncomputable def IsKV(K:PySem.W.Frag)(m:List Addr)(H:Hp):List (D×D)→List (Key×V)→Prop
 |[],xs=>xs=[]
 |p::r,xs=>∃ k v xr,xs=(k,v)::xr∧keyOf p.1=some k∧IsD K m H p.2 v∧IsKV K m H r xr
theorem isKV_mono{K:PySem.W.Frag}{m m':List Addr}{H H':Hp}(hs:Sub m m')(ht:Tr H H'):∀ (kvs:List (D×D)) (xs:List (Key×V)),IsKV K m H kvs xs→IsKV K m' H' kvs xs
 |[],_,h=>h
 |p::r,_,⟨k,v,xr,e,hk,hv,hr⟩=>⟨k,v,xr,e,hk,isD_mono hs ht _ _ hv,isKV_mono hs ht r xr hr⟩
theorem IsKV.length{K:PySem.W.Frag}{m:List Addr}{H:Hp}:∀ {kvs:List (D×D)}{xs:List (Key×V)},IsKV K m H kvs xs→kvs.length=xs.length
 |[],_,h=>by rw[show _=[] from h]; rfl
 |p::r,_,⟨k,v,xr,e,_,_,hr⟩=>by rw[e,List.length_cons,List.length_cons,hr.length]
theorem eq_key{a b:D}{k j:Key}(ha:keyOf a=some k)(hb:keyOf b=some j):M.eqT a b=decide (k=j):=by
 cases a with
 |int i=>
  cases ha
  cases b with
  |int i'=>cases hb; rw[M.eqT]; by_cases h:i=i'<;>simp[h]
  |str z=>cases hb; simp[M.eqT]
  |_=>cases hb
 |str z=>
  cases ha
  cases b with
  |int i'=>cases hb; simp[M.eqT]
  |str z'=>cases hb; rw[M.eqT]; by_cases h:z=z'<;>simp[h]
  |_=>cases hb
 |_=>cases ha
theorem IsKV.get{K:PySem.W.Frag}{m:List Addr}{H:Hp}{a:D}{j:Key}(ha:keyOf a=some j):∀ {kvs:List (D×D)}{xs:List (Key×V)},IsKV K m H kvs xs→(M.dget kvs a=none∧valV xs j=none)∨∃ d v,M.dget kvs a=some d∧valV xs j=some v∧IsD K m H d v
 |[],_,h=>by rw[show _=[] from h]; exact .inl ⟨rfl,rfl⟩
 |p::r,_,⟨k,v,xr,e,hk,hv,hr⟩=>by
  subst e
  have eq:=eq_key hk ha
  by_cases hkj:k=j
  ·refine .inr ⟨p.2,v,?_,valV_pos (p:=(k,v)) hkj,hv⟩
   rw[decide_eq_true hkj]at eq
   simp[M.dget,List.find?_cons,eq]
  ·rw[decide_eq_false hkj]at eq
   have e1:M.dget (p::r) a=M.dget r a:=by simp[M.dget,List.find?_cons,eq]
   rw[e1,valV_neg (p:=(k,v)) hkj]
   exact hr.get ha
theorem IsKV.any{K:PySem.W.Frag}{m:List Addr}{H:Hp}{a:D}{j:Key}(ha:keyOf a=some j):∀ {kvs:List (D×D)}{xs:List (Key×V)},IsKV K m H kvs xs→(kvs.any fun p=>M.eqT p.1 a)=(xs.any fun p=>decide (p.1=j))
 |[],_,h=>by rw[show _=[] from h]; rfl
 |p::r,_,⟨k,v,xr,e,hk,hv,hr⟩=>by
  subst e
  rw[List.any_cons,List.any_cons,eq_key hk ha,hr.any ha]
theorem IsKV.repl{K:PySem.W.Frag}{m:List Addr}{H:Hp}{a d:D}{j:Key}{w:V}(ha:keyOf a=some j)(hd:IsD K m H d w):∀ {kvs:List (D×D)}{xs:List (Key×V)},IsKV K m H kvs xs→IsKV K m H (kvs.map fun p=>if M.eqT p.1 a then(p.1,d) else p) (xs.map fun p=>if p.1=j then(p.1,w) else p)
 |[],_,h=>by rw[show _=[] from h]; rfl
 |p::r,_,⟨k,v,xr,e,hk,hv,hr⟩=>by
  subst e
  have eq:=eq_key hk ha
  rw[List.map_cons,List.map_cons]
  by_cases hkj:k=j
  ·rw[decide_eq_true hkj]at eq
   rw[if_pos eq,if_pos hkj]
   exact⟨k,w,_,rfl,hk,hd,hr.repl ha hd⟩
  ·rw[decide_eq_false hkj]at eq
   rw[if_neg (by rw[eq]; nofun),if_neg hkj]
   exact⟨k,v,_,rfl,hk,hv,hr.repl ha hd⟩
theorem IsKV.snoc{K:PySem.W.Frag}{m:List Addr}{H:Hp}{a d:D}{j:Key}{w:V}(ha:keyOf a=some j)(hd:IsD K m H d w):∀ {kvs:List (D×D)}{xs:List (Key×V)},IsKV K m H kvs xs→IsKV K m H (kvs++[(a,d)]) (xs++[(j,w)])
 |[],_,h=>by rw[show _=[] from h]; exact⟨j,w,[],rfl,ha,hd,rfl⟩
 |p::r,_,⟨k,v,xr,e,hk,hv,hr⟩=>by
  subst e
  exact⟨k,v,_,rfl,hk,hv,hr.snoc ha hd⟩
theorem IsKV.put{K:PySem.W.Frag}{m:List Addr}{H:Hp}{a d:D}{j:Key}{w:V}{kvs:List (D×D)}{xs:List (Key×V)}(h:IsKV K m H kvs xs)(ha:keyOf a=some j)(hd:IsD K m H d w):IsKV K m H (M.dput kvs a d) (putK xs j w):=by
 unfold M.dput putK
 rw[h.any ha]
 split
 ·exact h.repl ha hd
 ·exact h.snoc ha hd
noncomputable def IsC(K:PySem.W.Frag)(m:List Addr)(H:Hp):Cell→Addr→Prop
 |.lst true ds,a=>∃ xs,H a=some (.lst xs)∧IsDs K m H ds xs
 |.lst false ds,a=>∃ xs,SqF K H a xs∧IsDs K m H ds xs
 |.dic kvs,a=>∃ xs,H a=some (.dK xs)∧IsKV K m H kvs xs
noncomputable def Wr:Cell→Bool
 |.lst w _=>w
 |.dic _=>true
structure Rel (K:PySem.W.Frag) (m:List Addr) (st:Store) (H:Hp):Prop where
 len:m.length=st.length
 nd:∀ (l l':Nat) (a:Addr) (c c':Cell),m[l]?=some a→m[l']?=some a→st[l]?=some c→st[l']?=some c'→Wr c=true→Wr c'=true→l=l'
 cell:∀ (l:Nat) (c:Cell) (a:Addr),st[l]?=some c→m[l]?=some a→IsC K m H c a
section
variable {K:PySem.W.Frag}{m:List Addr}{st:Store}{H:Hp}
theorem IsC.wr{c:Cell}{a:Addr}(h:IsC K m H c a)(w:Wr c=true):∃ o,H a=some o:=by
 cases c with
 |lst w' ds=>
  have e:w'=true:=w
  subst e
  obtain⟨xs,e,_⟩:=h
  exact⟨_,e⟩
 |dic kvs=>
  obtain⟨xs,e,_⟩:=h
  exact⟨_,e⟩
theorem Rel.list(h:Rel K m st H){l:Nat}{ds:List D}{v:V}(e:M.listAt st l=some ds)(hv:IsD K m H (.loc l) v):∃ a xs,m[l]?=some a∧v=.ref a∧SqL K H a xs∧IsDs K m H ds xs:=by
 obtain⟨a,ha,rfl⟩:=hv.loc
 unfold M.listAt at e
 split at e
 ·rename_i w ds' q
  cases e
  have c:=h.cell l _ a q ha
  cases w with
  |true=>
   obtain⟨xs,e1,e2⟩:=c
   exact⟨a,xs,ha,rfl,SqL.of e1,e2⟩
  |false=>
   obtain⟨xs,e1,e2⟩:=c
   exact⟨a,xs,ha,rfl,e1.sq,e2⟩
 ·cases e
theorem Rel.seq(h:Rel K m st H){d:D}{ds:List D}{v:V}(e:M.seqAt st d=some ds)(hv:IsD K m H d v):∃ a xs,True∧v=.ref a∧SqL K H a xs∧IsDs K m H ds xs:=by
 cases d with
 |loc l=>
  obtain⟨a,xs,_,q⟩:=h.list e hv
  exact⟨a,xs,trivial,q⟩
 |lst es=>
  cases e
  obtain⟨a,xs,e,q,r⟩:=hv.lst
  exact⟨a,xs,trivial,e,q.sq,r⟩
 |_=>cases e
theorem Rel.wlist(h:Rel K m st H){l:Nat}{ds:List D}{v:V}(e:M.wlistAt st l=some ds)(hv:IsD K m H (.loc l) v):∃ a xs,m[l]?=some a∧v=.ref a∧H a=some (.lst xs)∧IsDs K m H ds xs∧st[l]?=some (.lst true ds):=by
 obtain⟨a,ha,rfl⟩:=hv.loc
 unfold M.wlistAt at e
 split at e
 ·rename_i ds' q
  cases e
  obtain⟨xs,e1,e2⟩:=h.cell l _ a q ha
  exact⟨a,xs,ha,rfl,e1,e2,q⟩
 ·cases e
theorem isC_mono{m':List Addr}{H':Hp}(hs:Sub m m')(ht:Tr H H'){c:Cell}{a:Addr}(h:IsC K m H c a)(hw:Wr c=true→H' a=H a):IsC K m' H' c a:=by
 cases c with
 |lst w ds=>
  cases w with
  |true=>
   obtain⟨xs,e,q⟩:=h
   exact⟨xs,(hw rfl).trans e,isDs_mono hs ht ds xs q⟩
  |false=>
   obtain⟨xs,e,q⟩:=h
   exact⟨xs,ht.sqF e,isDs_mono hs ht ds xs q⟩
 |dic kvs=>
  obtain⟨xs,e,q⟩:=h
  exact⟨xs,(hw rfl).trans e,isKV_mono hs ht kvs xs q⟩
theorem Rel.dict(h:Rel K m st H){l:Nat}{kvs:List (D×D)}{v:V}(e:M.dicAt st l=some kvs)(hv:IsD K m H (.loc l) v):∃ a xs,m[l]?=some a∧v=.ref a∧H a=some (.dK xs)∧IsKV K m H kvs xs∧st[l]?=some (.dic kvs):=by
 obtain⟨a,ha,rfl⟩:=hv.loc
 unfold M.dicAt at e
 split at e
 ·rename_i kvs' q
  cases e
  obtain⟨xs,e1,e2⟩:=h.cell l _ a q ha
  exact⟨a,xs,ha,rfl,e1,e2,q⟩
 ·cases e
theorem Rel.same(h:Rel K m st H){H':Hp}(s:Same H H'):Rel K m st H':=
 ⟨h.len,h.nd,fun l c a e ea=>isC_mono (Sub.refl m) (Tr.of_same s) (h.cell l c a e ea) fun w=>by
  obtain⟨xs,q⟩:=(h.cell l c a e ea).wr w
  rw[q]; exact s _ _ q⟩
theorem Rel.newC(h:Rel K m st H){p:Addr}{o:HO}{c:Cell}(hp:H p=none)(hc:Wr c=true→True)(hd:IsC K (m++[p]) (upd H p o) c p):Rel K (m++[p]) (st++[c]) (upd H p o):=by
 have ht:Tr H (upd H p o):=Tr.of_same (same_new hp)
 have old:∀ (l:Nat) (e:Cell) (a:Addr),(st++[c])[l]?=some e→(m++[p])[l]?=some a→(l<st.length∧st[l]?=some e∧m[l]?=some a)∨(l=st.length∧e=c∧a=p):=by
  intro l e a he ea
  by_cases hl:l<st.length
  ·rw[List.getElem?_append_left hl]at he
   rw[List.getElem?_append_left (by rw[h.len]; exact hl)]at ea
   exact .inl ⟨hl,he,ea⟩
  ·have hlt:=(List.getElem?_eq_some_iff.mp he).1
   rw[List.length_append,List.length_singleton]at hlt
   have e1:l=st.length:=by omega
   subst e1
   rw[List.getElem?_append_right (Nat.le_refl _)]at he
   rw[List.getElem?_append_right (by rw[h.len]; exact Nat.le_refl _),h.len]at ea
   have e2:c=e:=by simpa using he
   have e3:p=a:=by simpa using ea
   exact .inr ⟨rfl,e2.symm,e3.symm⟩
 refine⟨by simp[h.len],fun l l' a e e' e1 e2 e3 e4 w w'=>?_,fun l e a he ea=>?_⟩
 ·rcases old l e a e3 e1 with⟨h1,q1,r1⟩|⟨h1,q1,r1⟩<;>rcases old l' e' a e4 e2 with⟨h2,q2,r2⟩|⟨h2,q2,r2⟩
  ·exact h.nd l l' a e e' r1 r2 q1 q2 w w'
  ·obtain⟨ys,z⟩:=(h.cell l e a q1 r1).wr w
   rw[r2,hp]at z; cases z
  ·obtain⟨ys,z⟩:=(h.cell l' e' a q2 r2).wr w'
   rw[r1,hp]at z; cases z
  ·rw[h1,h2]
 ·rcases old l e a he ea with⟨h1,q1,r1⟩|⟨h1,q1,r1⟩
  ·refine isC_mono (Sub.app m [p]) ht (h.cell l e a q1 r1) fun w=>?_
   obtain⟨ys,z⟩:=(h.cell l e a q1 r1).wr w
   exact upd_ne (ne_of_none z hp)
  ·rw[q1,r1]
   exact hd
theorem Rel.new(h:Rel K m st H){p:Addr}{ds:List D}{xs:List V}(hp:H p=none)(hd:IsDs K m H ds xs):Rel K (m++[p]) (st++[.lst true ds]) (upd H p (.lst xs)):=
 h.newC hp (fun _=>trivial) ⟨xs,upd_same,isDs_mono (Sub.app m [p]) (Tr.of_same (same_new hp)) ds xs hd⟩
theorem Rel.newLoc(h:Rel K m st H){p:Addr}{H':Hp}:IsD K (m++[p]) H' (.loc st.length) (.ref p):=mkLoc (by
 rw[List.getElem?_append_right (by rw[h.len]; exact Nat.le_refl _),h.len]; simp)
theorem Rel.putC(h:Rel K m st H){l:Nat}{a:Addr}{c c':Cell}{o:HO}(e:st[l]?=some c)(hw:Wr c=true)(ea:m[l]?=some a)(ht:Tr H (upd H a o))(hd:IsC K m (upd H a o) c' a):
  Rel K m (st.set l c') (upd H a o):=by
 have hl:=(List.getElem?_eq_some_iff.mp e).1
 have wr:∀ (j:Nat) (d:Cell),(st.set l c')[j]?=some d→(j=l∧d=c')∨(j≠l∧st[j]?=some d):=by
  intro j d q
  by_cases hj:j=l
  ·subst hj
   rw[List.getElem?_set_self hl]at q
   exact .inl ⟨rfl,(Option.some.inj q).symm⟩
  ·rw[List.getElem?_set_ne (Ne.symm hj)]at q
   exact .inr ⟨hj,q⟩
 refine⟨by rw[List.length_set]; exact h.len,fun j j' b d d' e1 e2 e3 e4 w w'=>?_,fun j d b q eb=>?_⟩
 ·rcases wr j d e3 with⟨a1,b1⟩|⟨a1,b1⟩<;>rcases wr j' d' e4 with⟨a2,b2⟩|⟨a2,b2⟩
  ·rw[a1,a2]
  ·subst a1; exact h.nd _ _ b _ _ e1 e2 e b2 hw w'
  ·subst a2; exact h.nd _ _ b _ _ e1 e2 b1 e w hw
  ·exact h.nd _ _ b _ _ e1 e2 b1 b2 w w'
 ·rcases wr j d q with⟨a1,b1⟩|⟨a1,b1⟩
  ·subst a1 b1
   rw[ea]at eb; cases eb
   exact hd
  ·refine isC_mono (Sub.refl m) ht (h.cell j d b b1 eb) fun w=>upd_ne fun z=>?_
   subst z
   exact a1 (h.nd _ _ b _ _ eb ea b1 e w hw)
theorem Rel.put(h:Rel K m st H){l:Nat}{a:Addr}{ds ds':List D}{xs ys:List V}(e:st[l]?=some (.lst true ds))(ea:m[l]?=some a)(hH:H a=some (.lst xs))(hd:IsDs K m H ds' ys):
  Rel K m (st.set l (.lst true ds')) (upd H a (.lst ys)):=
 h.putC e rfl ea (Tr.put hH) ⟨ys,upd_same,isDs_mono (Sub.refl m) (Tr.put hH) ds' ys hd⟩
end
structure SlotOk (K:PySem.W.Frag) (m:List Addr) (H:Hp) (τ:Sl) (σ:L2.St):Prop where
 len:τ.length=σ.length
 at_:∀ (i:Nat) (d:D),τ[i]?=some (some d)→∃ v,σ[i]?=some (some v)∧IsD K m H d v
theorem SlotOk.mono{K:PySem.W.Frag}{m m':List Addr}{H H':Hp}{τ:Sl}{σ:L2.St}(h:SlotOk K m H τ σ)(s:Sub m m')(t:Tr H H'):SlotOk K m' H' τ σ:=
 ⟨h.len,fun i d e=>let ⟨v,a,b⟩:=h.at_ i d e; ⟨v,a,isD_mono s t d v b⟩⟩
theorem SlotOk.put{K:PySem.W.Frag}{m:List Addr}{H:Hp}{τ:Sl}{σ:L2.St}(h:SlotOk K m H τ σ){i:Nat}{d:D}{v:V}(q:IsD K m H d v):SlotOk K m H (τ.set i (some d)) (σ.set i (some v)):=by
 refine⟨by rw[List.length_set,List.length_set]; exact h.len,fun j e ej=>?_⟩
 by_cases hj:i=j
 ·subst hj
  have hi:i<τ.length:=by
   have:=(List.getElem?_eq_some_iff.mp ej).1
   rwa [List.length_set]at this
  rw[List.getElem?_set_self hi]at ej
  cases ej
  exact⟨v,List.getElem?_set_self (by rw[← h.len]; exact hi),q⟩
 ·rw[List.getElem?_set_ne hj]at ej ⊢
  exact h.at_ j e ej
def Post(K:PySem.W.Frag)(m:List Addr)(H:Hp)(d:D)(st':Store)(Q:VK):Prop:=∀ v m' H',Sub m m'→Tr H H'→Rel K m' st' H'→IsD K m' H' d v→Q v H'
def PostB(K:PySem.W.Frag)(m:List Addr)(H:Hp)(b:Bool)(st':Store)(Q:Bool→Hp→Prop):Prop:=∀ m' H',Sub m m'→Tr H H'→Rel K m' st' H'→Q b H'
def PostL(K:PySem.W.Frag)(m:List Addr)(H:Hp)(ds:List D)(st':Store)(Q:List V→Hp→Prop):Prop:=∀ vs m' H',Sub m m'→Tr H H'→Rel K m' st' H'→IsDs K m' H' ds vs→Q vs H'
theorem Post.mono{K:PySem.W.Frag}{m m1:List Addr}{H H1:Hp}{d:D}{st':Store}{Q:VK}(p:Post K m H d st' Q)(s:Sub m m1)(t:Tr H H1):Post K m1 H1 d st' Q:=
 fun v m' H' s' t' r i=>p v m' H' (s.trans s') (t.trans t') r i
theorem Post.here{K:PySem.W.Frag}{m:List Addr}{H:Hp}{d:D}{st':Store}{Q:VK}{v:V}(p:Post K m H d st' Q)(r:Rel K m st' H)(i:IsD K m H d v):Q v H:=p v m H (Sub.refl m) (Tr.refl H) r i
noncomputable def tD(K:PySem.W.Frag)(f:Sl→Store→Option (D×Store)):TE:=fun σ H Q=>∃ m st τ d st',Rel K m st H∧SlotOk K m H τ σ∧f τ st=some (d,st')∧Post K m H d st' Q
noncomputable def tTs(K:PySem.W.Frag)(f:Sl→Store→Option (Bool×Store)):TT:=fun σ H Q=>∃ m st τ d st',Rel K m st H∧SlotOk K m H τ σ∧f τ st=some (d,st')∧PostB K m H d st' Q
noncomputable def tL(K:PySem.W.Frag)(f:Sl→Store→Option (List D×Store)):TA:=fun σ H Q=>∃ m st τ d st',Rel K m st H∧SlotOk K m H τ σ∧f τ st=some (d,st')∧PostL K m H d st' Q
noncomputable def rD(K:PySem.W.Frag)(g:Store→D→D→Option (D×Store)):R2:=fun x y H Q=>∃ m st a b d st',Rel K m st H∧IsD K m H a x∧IsD K m H b y∧g st a b=some (d,st')∧Post K m H d st' Q
def rC(K:PySem.W.Frag)(g:Store→List D→Option (D×Store)):List V→Hp→VK→Prop:=fun xs H Q=>∃ m st ds d st',Rel K m st H∧IsDs K m H ds xs∧g st ds=some (d,st')∧Post K m H d st' Q
def rU1(K:PySem.W.Frag)(g:Store→D→Option (D×Store)):V→Hp→VK→Prop:=fun x H Q=>∃ m st a d st',Rel K m st H∧IsD K m H a x∧g st a=some (d,st')∧Post K m H d st' Q
theorem tD.el{K:PySem.W.Frag}{f:Sl→Store→Option (D×Store)}{σ:L2.St}{H:Hp}{Q:VK}{P:Prop}(h:tD K f σ H Q)(k:∀ m st τ d st',Rel K m st H→SlotOk K m H τ σ→f τ st=some (d,st')→Post K m H d st' Q→P):P:=by
 rcases h with⟨m,st,τ,d,st',a,b,c,e⟩
 exact k m st τ d st' a b c e
theorem tTs.el{K:PySem.W.Frag}{f:Sl→Store→Option (Bool×Store)}{σ:L2.St}{H:Hp}{Q:Bool→Hp→Prop}{P:Prop}(h:tTs K f σ H Q)(k:∀ m st τ d st',Rel K m st H→SlotOk K m H τ σ→f τ st=some (d,st')→PostB K m H d st' Q→P):P:=by
 rcases h with⟨m,st,τ,d,st',p0,p1,p2,p3⟩
 exact k m st τ d st' p0 p1 p2 p3
theorem tL.el{K:PySem.W.Frag}{f:Sl→Store→Option (List D×Store)}{σ:L2.St}{H:Hp}{Q:List V→Hp→Prop}{P:Prop}(h:tL K f σ H Q)(k:∀ m st τ d st',Rel K m st H→SlotOk K m H τ σ→f τ st=some (d,st')→PostL K m H d st' Q→P):P:=by
 rcases h with⟨m,st,τ,d,st',p0,p1,p2,p3⟩
 exact k m st τ d st' p0 p1 p2 p3
theorem rD.el{K:PySem.W.Frag}{f:Store→D→D→Option (D×Store)}{x y:V}{H:Hp}{Q:VK}{P:Prop}(h:rD K f x y H Q)(k:∀ m st a b d st',Rel K m st H→IsD K m H a x→IsD K m H b y→f st a b=some (d,st')→Post K m H d st' Q→P):P:=by
 rcases h with⟨m,st,a,b,d,st',p0,p1,p2,p3,p4⟩
 exact k m st a b d st' p0 p1 p2 p3 p4
theorem rC.el{K:PySem.W.Frag}{f:Store→List D→Option (D×Store)}{xs:List V}{H:Hp}{Q:VK}{P:Prop}(h:rC K f xs H Q)(k:∀ m st ds d st',Rel K m st H→IsDs K m H ds xs→f st ds=some (d,st')→Post K m H d st' Q→P):P:=by
 rcases h with⟨m,st,ds,d,st',p0,p1,p2,p3⟩
 exact k m st ds d st' p0 p1 p2 p3
theorem rU1.el{K:PySem.W.Frag}{f:Store→D→Option (D×Store)}{x:V}{H:Hp}{Q:VK}{P:Prop}(h:rU1 K f x H Q)(k:∀ m st a d st',Rel K m st H→IsD K m H a x→f st a=some (d,st')→Post K m H d st' Q→P):P:=by
 rcases h with⟨m,st,a,d,st',p0,p1,p2,p3⟩
 exact k m st a d st' p0 p1 p2 p3
theorem _root_.L2.PE.imp{X:Cx}{e:Expr}{t t':TE}(h:PE X e t)(f:∀ σ H Q,t' σ H Q→t σ H Q):PE X e t':=fun pins s σ H Q I q=>h pins s σ H Q I (f σ H Q q)
theorem _root_.L2.PT.imp{X:Cx}{e:Expr}{t t':TT}(h:PT X e t)(f:∀ σ H Q,t' σ H Q→t σ H Q):PT X e t':=fun pins s σ H Q I q=>h pins s σ H Q I (f σ H Q q)
theorem _root_.L2.PW.imp{X:Cx}{e:Expr}{t t':TT}(h:PW X e t)(f:∀ σ H Q,t' σ H Q→t σ H Q):PW X e t':=fun w pins s σ H Q I q=>h w pins s σ H Q I (f σ H Q q)
theorem _root_.L2.PA.imp{X:Cx}{e:List Expr}{t t':TA}(h:PA X e t)(f:∀ σ H Q,t' σ H Q→t σ H Q):PA X e t':=fun p pins s σ H Q I q=>h p pins s σ H Q I (f σ H Q q)
theorem _root_.L2.PS.imp{X:Cx}{e:Stmt}{t t':TS}(h:PS X e t)(f:∀ σ H Q,t' σ H Q→t σ H Q):PS X e t':=fun pins s σ H Q I q=>h pins s σ H Q I (f Q σ H q)
theorem _root_.L2.PSs.imp{X:Cx}{e:List Stmt}{t t':TS}(h:PSs X e t)(f:∀ D σ H,t' D σ H→t D σ H):PSs X e t':=fun pins s σ H D I q=>h pins s σ H D I (f D σ H q)
theorem bindD{α:Type}{f:Option (D×Store)}{g:D×Store→Option α}{r:α}(e:f.bind g=some r):∃ d st,f=some (d,st)∧g (d,st)=some r:=by
 cases f with
 |none=>cases e
 |some p=>exact⟨p.1,p.2,rfl,e⟩
theorem mapD{α β:Type}{f:Option α}{g:α→β}{r:β}(e:f.map g=some r):∃ d,f=some d∧g d=r:=by
 cases f with
 |none=>cases e
 |some p=>exact⟨p,rfl,Option.some.inj e⟩
theorem bindO{α β:Type}{f:Option α}{g:α→Option β}{r:β}(e:f.bind g=some r):∃ d,f=some d∧g d=some r:=by
 cases f with
 |none=>cases e
 |some p=>exact⟨p,rfl,e⟩
section
variable {K:PySem.W.Frag}
theorem tD_bin{fa fb:Sl→Store→Option (D×Store)}{g:Store→D→D→Option (D×Store)}{σ:L2.St}{H:Hp}{Q:VK}
  (h:tD K (fun τ st=>(fa τ st).bind fun p=>(fb τ p.2).bind fun q=>g q.2 p.1 q.1) σ H Q):tOp (rD K g) (tD K fa) (tD K fb) σ H Q:=by
 refine h.el fun m st τ d st' R0 S0 e q=>?_
 obtain⟨d1,s1,e1,e⟩:=bindD e
 obtain⟨d2,s2,e2,e⟩:=bindD e
 exact⟨m,st,τ,d1,s1,R0,S0,e1,fun x m1 H1 b1 t1 R1 i1=>⟨m1,s1,τ,d2,s2,R1,S0.mono b1 t1,e2,fun y m2 H2 b2 t2 R2 i2=>
  ⟨m2,s2,d1,d2,d,st',R2,isD_mono b2 t2 _ _ i1,i2,e,q.mono (b1.trans b2) (t1.trans t2)⟩⟩⟩
theorem tL_cons{fa:Sl→Store→Option (D×Store)}{fr:Sl→Store→Option (List D×Store)}{σ:L2.St}{H:Hp}{Q:List V→Hp→Prop}
  (h:tL K (fun τ st=>(fa τ st).bind fun p=>(fr τ p.2).bind fun q=>some (p.1::q.1,q.2)) σ H Q):tCons (tD K fa) (tL K fr) σ H Q:=by
 refine h.el fun m st τ d st' R0 S0 e q=>?_
 obtain⟨d1,s1,e1,e⟩:=bindD e
 obtain⟨p,e2,e⟩:=bindO e
 cases e
 exact⟨m,st,τ,d1,s1,R0,S0,e1,fun x m1 H1 b1 t1 R1 i1=>⟨m1,s1,τ,p.1,p.2,R1,S0.mono b1 t1,e2,fun xs m2 H2 b2 t2 R2 i2=>
  q _ m2 H2 (b1.trans b2) (t1.trans t2) R2 (mkCons (isD_mono b2 t2 _ _ i1) i2)⟩⟩
theorem tL_nil{σ:L2.St}{H:Hp}{Q:List V→Hp→Prop}(h:tL K (fun _ st=>some ([],st)) σ H Q):tNil σ H Q:=by
 refine h.el fun m st τ d st' R0 S0 e q=>?_
 cases e
 exact q [] m H (Sub.refl m) (Tr.refl H) R0 mkNil
theorem tL_call{fa:Sl→Store→Option (List D×Store)}{g:Store→List D→Option (D×Store)}{σ:L2.St}{H:Hp}{Q:VK}
  (h:tD K (fun τ st=>(fa τ st).bind fun p=>g p.2 p.1) σ H Q):tCB (rC K g) (tL K fa) σ H Q:=by
 refine h.el fun m st τ d st' R0 S0 e q=>?_
 obtain⟨p,e1,e⟩:=bindO e
 exact⟨m,st,τ,p.1,p.2,R0,S0,e1,fun xs m1 H1 b1 t1 R1 i1=>⟨m1,p.2,p.1,d,st',R1,i1,e,q.mono b1 t1⟩⟩
end
end MS
end
section
namespace MS
open PySem PySem.Spec PyProof.Rows L2
open M (D Cell Store Sl)
section
variable {X:Cx}
theorem lim_eq:(sizeLine:Nat)=M.lim:=sizeLine_eq
theorem op_fdiv64:OpR X (binaryOp .FloorDiv) (rI (fun _ j=>0<j∧j<2 ^ 64) fun i j=>.int (i / j)):=opI fun i j _ _ _ _ _ hc q=>by
 have h1:(0:Int)<j:=hc.1
 have h2:j<2 ^ 64:=hc.2
 refine floordiv_int (by omega) (by rw[Int.fdiv_eq_ediv_of_nonneg i (by omega)]; exact q) (.inl (PyProof.noPylong_of_log2 ?_))
 have h3:j.natAbs<2 ^ 64:=by omega
 have h4:j.natAbs≠0:=by omega
 have h5:j.natAbs.log2<64:=(Nat.log2_lt h4).mpr h3
 omega
theorem _root_.MS.IsDs.rep{K:PySem.W.Frag}{m:List Addr}{H:Hp}{ds:List D}{xs:List V}(h:IsDs K m H ds xs):∀ k:Nat,IsDs K m H (List.replicate k ds).flatten (List.replicate k xs).flatten
 |0=>by simp only[List.replicate_zero,List.flatten_nil]; exact mkNil
 |k+1=>by
  rw[List.replicate_succ,List.replicate_succ,List.flatten_cons,List.flatten_cons]
  exact h.append (IsDs.rep h k)
theorem op_catS{pins:List (Addr×Obj)}{s:Shared}{σ:L2.St}{H:Hp}{Q:VK}{l b:Addr}{xs ys:List V}(I:Inv X pins σ H s)(hq:SqL X.K H l xs)(hq':SqL X.K H b ys)(hz:xs.length+ys.length≤sizeLine)(q:∀ p,H p=none→Q (.ref p) (upd H p (.lst (xs++ys)))):
  wpAny (model X.prog X.w) X.A (binaryOp .Add (.ref l) (.ref b)) (EP X pins σ Q) X.xe s:=by
 obtain⟨vs,r1,pl,_⟩:=I.list hq
 obtain⟨ws,r2,pl2,_⟩:=I.list hq'
 have l1:=r1.length
 have l2:=r2.length
 obtain⟨⟨cls,dd,data,sl⟩,n,ho,hc,hdd,hd⟩:=pl
 obtain⟨⟨cls2,dd2,data2,sl2⟩,n2,ho2,hc2,hdd2,hd2⟩:=pl2
 simp only at hc hd hc2 hd2
 subst hc hd hc2 hd2
 have e:vs.toArray++ws.toArray=(vs++ws).toArray:=by simp
 refine concat_meets ⟨_,ho,rfl⟩ ⟨_,ho2,rfl⟩ noFill_list_add seq_list_add PySem.F.slot_list_add PySem.F.entry_list_add (PySem.F.args_list_add_2 _ _) (list_addW l b vs.toArray ws.toArray n n2 dd dd2 sl sl2 (by simp; omega)) ⟨ho,ho2,?_⟩
 rw[e]
 exact⟨.ref _,_,I.lnew (t':=s.toks) (r1.append r2) (by rw[List.length_append]; omega),rfl,q _ I.fresh⟩
theorem op_binD(op:Operator):OpR X (binaryOp op) (rD X.K fun st a b=>M.binop st op a b):=by
 intro pins s σ H x y v u Q I rx ry h
 refine h.el fun m st a b d st' R0 i1 i2 e q=>?_
 have e:M.binop st op a b=some (d,st'):=e
 unfold M.binop at e
 split at e
 ·cases e
  exact op_add pins s σ H x y v u Q I rx ry ⟨_,_,i1.int,i2.int,q.here R0 (mkInt _)⟩
 ·rename_i as bs
  split at e
  ·cases e
  ·rename_i hc
   cases e
   rw[Bool.or_eq_true,decide_eq_true_eq,not_or,List.isEmpty_iff]at hc
   obtain⟨pa,xs,rfl,hx,ix⟩:=i1.tup
   obtain⟨pb,ys,rfl,hy,iy⟩:=i2.tup
   have l1:=ix.length
   have l2:=iy.length
   have l3:=lim_eq
   refine op_catT pins s σ H _ _ v u Q I rx ry ⟨pa,pb,xs,ys,rfl,rfl,hx,hy,?_,by omega,fun z=>?_,fun z p hp=>?_⟩
   ·intro z
    subst z
    exact hc.1 (List.length_eq_zero_iff.mp l1)
   ·have i3:=ix.append iy
    rw[z,List.append_nil]at i3
    exact q.here R0 (mkTup hx i3)
   ·have sm:=same_new (o:=.tup (xs++ys)) hp
    exact q _ m _ (Sub.refl m) (Tr.of_same sm) (R0.same sm) (mkTup (SqT.of upd_same) (isDs_mono (Sub.refl m) (Tr.of_same sm) _ _ (ix.append iy)))
 ·split at e
  ·cases e
  ·rename_i hc
   cases e
   have l3:=lim_eq
   exact op_add_str pins s σ H x y v u Q I rx ry ⟨_,_,i1.str,i2.str,by omega,q.here R0 (mkStr _)⟩
 ·rename_i la lb _ _ _
  obtain⟨ds1,e1,e⟩:=bindO e
  obtain⟨ds2,e2,e⟩:=bindO e
  split at e
  ·cases e
  ·rename_i hc
   cases e
   obtain⟨pa,xs,_,rfl,hx,ix⟩:=R0.seq e1 i1
   obtain⟨pb,ys,_,rfl,hy,iy⟩:=R0.seq e2 i2
   have l1:=ix.length
   have l2:=iy.length
   have l3:=lim_eq
   cases rx
   cases ry
   refine op_catS I hx hy (by omega) fun p hp=>?_
   exact q _ (m++[p]) _ (Sub.app m [p]) (Tr.of_same (same_new hp)) (R0.new hp (ix.append iy)) R0.newLoc
 ·cases e
  exact op_sub pins s σ H x y v u Q I rx ry ⟨_,_,i1.int,i2.int,q.here R0 (mkInt _)⟩
 ·split at e
  ·rename_i hc
   cases e
   refine op_mul pins s σ H x y v u Q I rx ry ⟨_,_,i1.int,i2.int,?_,q.here R0 (mkInt _)⟩
   unfold M.mulOk at hc
   simp only[Bool.or_eq_true,Bool.and_eq_true,decide_eq_true_eq]at hc
   exact hc
  ·cases e
 ·rename_i as k _
  split at e
  ·cases e
  ·rename_i hc
   cases e
   simp only[Bool.or_eq_true,decide_eq_true_eq,not_or]at hc
   obtain⟨pa,xs,rfl,hx,ix⟩:=i1.tup
   have l1:=ix.length
   have l3:=lim_eq
   refine op_repT pins s σ H _ _ v u Q I rx ry ⟨pa,k,xs,rfl,i2.int,hx,by omega,by omega,by rw[← l1]; omega,fun ys hy=>⟨fun z=>?_,fun p hp=>?_⟩⟩
   ·have i3:=ix.rep k.toNat
    rw[← hy,z]at i3
    exact q.here R0 (mkTup hx i3)
   ·have sm:=same_new (o:=.tup ys) hp
    have i3:=ix.rep k.toNat
    rw[← hy]at i3
    exact q _ m _ (Sub.refl m) (Tr.of_same sm) (R0.same sm) (mkTup (SqT.of upd_same) (isDs_mono (Sub.refl m) (Tr.of_same sm) _ _ i3))
 ·rename_i la k _
  obtain⟨ds1,e1,e⟩:=bindO e
  split at e
  ·cases e
  ·rename_i hc
   cases e
   simp only[Bool.or_eq_true,decide_eq_true_eq,not_or]at hc
   obtain⟨pa,xs,m1,rfl,hx,ix,_⟩:=R0.wlist e1 i1
   have l1:=ix.length
   have l3:=lim_eq
   refine op_rep pins s σ H _ _ v u Q I rx ry ⟨pa,k,xs,rfl,i2.int,hx,by omega,by omega,by rw[← l1]; omega,fun p hp=>?_⟩
   exact q _ (m++[p]) _ (Sub.app m [p]) (Tr.of_same (same_new hp)) (R0.new hp (ix.rep k.toNat)) R0.newLoc
 ·split at e
  ·rename_i hc
   cases e
   exact op_fdiv64 pins s σ H x y v u Q I rx ry ⟨_,_,i1.int,i2.int,hc,q.here R0 (mkInt _)⟩
  ·cases e
 ·split at e
  ·rename_i hc
   cases e
   exact op_mod pins s σ H x y v u Q I rx ry ⟨_,_,i1.int,i2.int,hc,q.here R0 (mkInt _)⟩
  ·cases e
 ·split at e
  ·rename_i hc
   cases e
   exact op_pow pins s σ H x y v u Q I rx ry ⟨_,_,i1.int,i2.int,⟨hc.1,by omega,hc.2.2⟩,q.here R0 (mkInt _)⟩
  ·cases e
 ·cases e
theorem isD_tuple{pins:List (Addr×Obj)}{σ:L2.St}{H:Hp}{s:Shared}{m:List Addr}{ds:List D}{v:V}(I:Inv X pins σ H s)(h:IsD X.K m H (.tup ds) v):∃ a xs its,v=.ref a∧SqT X.K H a xs∧IsDs X.K m H ds xs∧Vals xs its∧IsTup s.heap a its.toArray:=by
 obtain⟨a,xs,rfl,hx,ix⟩:=h.tup
 obtain⟨its,r,p,_⟩:=I.tuple hx
 exact⟨a,xs,its,rfl,hx,ix,r,p⟩
section
variable {pins:List (Addr×Obj)}{σ:L2.St}{H:Hp}{s:Shared}{m:List Addr}
mutual
theorem isD_inj(I:Inv X pins σ H s):∀ (n:Nat) (d e:D) (v:V),M.flat n d=true→M.flat n e=true→IsD X.K m H d v→IsD X.K m H e v→d=e
 |n,.loc _,_,_,f,_,_,_=>by simp[M.flat]at f
 |n,.lst _,_,_,f,_,_,_=>by simp[M.flat]at f
 |n,.non,e,v,_,fe,h,h'=>by
  rw[h.non]at h'
  cases e with
  |non=>rfl
  |tup ds=>obtain⟨a,xs,z,_⟩:=h'.tup; cases z
  |loc l=>simp[M.flat]at fe
  |lst _=>simp[M.flat]at fe
  |bl b=>cases h'.bl
  |int b=>cases h'.int
  |str b=>cases h'.str
 |n,.bl b,e,v,_,fe,h,h'=>by
  rw[h.bl]at h'
  cases e with
  |non=>cases h'.non
  |tup ds=>obtain⟨a,xs,z,_⟩:=h'.tup; cases z
  |loc l=>simp[M.flat]at fe
  |lst _=>simp[M.flat]at fe
  |bl b=>cases h'.bl; rfl
  |int b=>cases h'.int
  |str b=>cases h'.str
 |n,.int b,e,v,_,fe,h,h'=>by
  rw[h.int]at h'
  cases e with
  |non=>cases h'.non
  |tup ds=>obtain⟨a,xs,z,_⟩:=h'.tup; cases z
  |loc l=>simp[M.flat]at fe
  |lst _=>simp[M.flat]at fe
  |bl b=>cases h'.bl
  |int b=>cases h'.int; rfl
  |str b=>cases h'.str
 |n,.str b,e,v,_,fe,h,h'=>by
  rw[h.str]at h'
  cases e with
  |non=>cases h'.non
  |tup ds=>obtain⟨a,xs,z,_⟩:=h'.tup; cases z
  |loc l=>simp[M.flat]at fe
  |lst _=>simp[M.flat]at fe
  |bl b=>cases h'.bl
  |int b=>cases h'.int
  |str b=>cases h'.str; rfl
 |0,.tup ds,e,v,f,fe,h,h'=>by simp[M.flat]at f
 |n+1,.tup ds,e,v,f,fe,h,h'=>by
  obtain⟨a,xs,rfl,hx,ix⟩:=h.tup
  cases e with
  |non=>cases h'.non
  |tup es=>
   obtain⟨b,ys,z,hy,iy⟩:=h'.tup
   cases z
   have:=I.tuple_inj hx hy
   subst this
   simp only[M.flat]at f fe
   rw[isDs_inj I n ds es xs f fe ix iy]
  |loc l=>simp[M.flat]at fe
  |lst _=>simp[M.flat]at fe
  |bl b=>cases h'.bl
  |int b=>cases h'.int
  |str b=>cases h'.str
theorem isDs_inj(I:Inv X pins σ H s):∀ (n:Nat) (ds es:List D) (xs:List V),M.flats n ds=true→M.flats n es=true→IsDs X.K m H ds xs→IsDs X.K m H es xs→ds=es
 |n,[],es,xs,_,_,h,h'=>by
  rw[h.nil]at h'
  exact(List.length_eq_zero_iff.mp h'.length).symm
 |n,d::ds,es,xs,f,fe,h,h'=>by
  obtain⟨x,r,rfl,q,t⟩:=h.cons
  cases es with
  |nil=>cases h'.nil
  |cons e es=>
   obtain⟨x',r',z,q',t'⟩:=h'.cons
   cases z
   simp only[M.flats,Bool.and_eq_true]at f fe
   rw[isD_inj I n d e x f.1 fe.1 q q',isDs_inj I n ds es r f.2 fe.2 t t']
end
mutual
theorem eqT_refl:∀ (n:Nat) (d:D),M.flat n d=true→M.eqT d d=true
 |n,.loc _,f=>by simp[M.flat]at f
 |n,.lst _,f=>by simp[M.flat]at f
 |n,.non,_=>rfl
 |n,.bl b,_=>by simp[M.eqT]
 |n,.int b,_=>by simp[M.eqT]
 |n,.str b,_=>by simp[M.eqT]
 |0,.tup ds,f=>by simp[M.flat]at f
 |n+1,.tup ds,f=>by
  simp only[M.flat]at f
  simp only[M.eqT]
  exact eqTs_refl n ds f
theorem eqTs_refl:∀ (n:Nat) (ds:List D),M.flats n ds=true→M.eqTs ds ds=true
 |n,[],_=>rfl
 |n,d::ds,f=>by
  simp only[M.flats,Bool.and_eq_true]at f
  simp only[M.eqTs,eqT_refl n d f.1,eqTs_refl n ds f.2,Bool.and_self]
end
noncomputable def pairE(ds es:List D)(j:Nat):Bool:=match ds[j]?,es[j]? with
 |some d,some e=>M.eqT d e
 |_,_=>true
theorem eqTs_pair:∀ (ds es:List D),M.eqTs ds es=((List.range (min ds.length es.length)).all (pairE ds es)&&ds.length==es.length)
 |[],[]=>rfl
 |[],e::es=>by simp[M.eqTs]
 |d::ds,[]=>by simp[M.eqTs]
 |d::ds,e::es=>by
  simp only[M.eqTs]
  rw[eqTs_pair ds es,List.length_cons,List.length_cons,Nat.add_min_add_right,List.range_succ_eq_map,List.all_cons,List.all_map,Bool.and_assoc]
  congr 1
  congr 1
  rw[Bool.eq_iff_iff,beq_iff_eq,beq_iff_eq]
  omega
theorem eqTs_same{ds es:List D}(h:ds.length=es.length):M.eqTs ds es=(List.range ds.length).all (pairE ds es):=by
 rw[eqTs_pair,h,Nat.min_self]
 simp
theorem eqAt_D(I:Inv X pins σ H s):∀ (n:Nat) (A:Around) (d e:D) (x y:V) (u v:Value),A.units+n<cLine→M.flat n d=true→M.flat n e=true→IsD X.K m H d x→IsD X.K m H e y→RelV x u→RelV y v→
  SeqAt.EqAt A s u v (M.eqT d e)∧SeqAt.RcAt A s u v (M.eqT d e):=by
 intro n
 induction n with
 |zero=>
  intro A d e x y u v hu f fe hx hy rx ry
  have hu0:A.units<cLine:=by omega
  cases d with
  |loc _=>simp[M.flat]at f
  |lst _=>simp[M.flat]at f
  |tup _=>simp[M.flat]at f
  |non=>
   cases hx.non; cases rx
   cases e with
   |loc _=>simp[M.flat]at fe
   |lst _=>simp[M.flat]at fe
   |tup _=>simp[M.flat]at fe
   |non=>cases hy.non; cases ry; exact⟨SeqAt.EqAt.same _,SeqAt.RcAt.none_none⟩
   |bl b=>cases hy.bl; cases ry; exact⟨SeqAt.EqAt.none_bool b,SeqAt.RcAt.none_bool b⟩
   |int b=>cases hy.int; obtain⟨t,rfl⟩:=ry; exact⟨SeqAt.EqAt.none_int b t,SeqAt.RcAt.none_int b t⟩
   |str b=>cases hy.str; obtain⟨t,rfl⟩:=ry; exact⟨SeqAt.EqAt.none_str b t,SeqAt.RcAt.none_str b t⟩
  |bl a=>
   cases hx.bl; cases rx
   cases e with
   |loc _=>simp[M.flat]at fe
   |lst _=>simp[M.flat]at fe
   |tup _=>simp[M.flat]at fe
   |non=>cases hy.non; cases ry; exact⟨SeqAt.EqAt.bool_none a,SeqAt.RcAt.bool_none a⟩
   |bl b=>cases hy.bl; cases ry; exact⟨SeqAt.EqAt.bool_bool a b,SeqAt.RcAt.bool_bool a b⟩
   |int b=>cases hy.int; obtain⟨t,rfl⟩:=ry; exact⟨SeqAt.EqAt.bool_int a b t,SeqAt.RcAt.bool_int a b t⟩
   |str b=>cases hy.str; obtain⟨t,rfl⟩:=ry; exact⟨SeqAt.EqAt.bool_str a b t,SeqAt.RcAt.bool_str a b t⟩
  |int a=>
   cases hx.int; obtain⟨t',rfl⟩:=rx
   cases e with
   |loc _=>simp[M.flat]at fe
   |lst _=>simp[M.flat]at fe
   |tup _=>simp[M.flat]at fe
   |non=>cases hy.non; cases ry; exact⟨SeqAt.EqAt.int_none a t',SeqAt.RcAt.int_none a t'⟩
   |bl b=>cases hy.bl; cases ry; exact⟨SeqAt.EqAt.int_bool a t' b,SeqAt.RcAt.int_bool a t' b⟩
   |int b=>cases hy.int; obtain⟨t,rfl⟩:=ry; exact⟨SeqAt.EqAt.int_int a t' b t,SeqAt.RcAt.int_int a t' b t⟩
   |str b=>cases hy.str; obtain⟨t,rfl⟩:=ry; exact⟨SeqAt.EqAt.int_str a t' b t,SeqAt.RcAt.int_str a t' b t⟩
  |str a=>
   cases hx.str; obtain⟨t',rfl⟩:=rx
   cases e with
   |loc _=>simp[M.flat]at fe
   |lst _=>simp[M.flat]at fe
   |tup _=>simp[M.flat]at fe
   |non=>cases hy.non; cases ry; exact⟨SeqAt.EqAt.str_none a t',SeqAt.RcAt.str_none a t'⟩
   |bl b=>cases hy.bl; cases ry; exact⟨SeqAt.EqAt.str_bool a t' b,SeqAt.RcAt.str_bool a t' b⟩
   |int b=>cases hy.int; obtain⟨t,rfl⟩:=ry; exact⟨SeqAt.EqAt.str_int a t' b t,SeqAt.RcAt.str_int a t' b t⟩
   |str b=>cases hy.str; obtain⟨t,rfl⟩:=ry; exact⟨SeqAt.EqAt.str_str a t' b t,SeqAt.RcAt.str_str a t' b t⟩
 |succ n ih=>
  intro A d e x y u v hu f fe hx hy rx ry
  have hu0:A.units<cLine:=by omega
  cases d with
  |loc _=>simp[M.flat]at f
  |lst _=>simp[M.flat]at f
  |tup ds=>
   obtain⟨a,xs,its,rfl,hq,ix,r1,p1⟩:=isD_tuple I hx
   cases rx
   cases e with
   |loc _=>simp[M.flat]at fe
   |lst _=>simp[M.flat]at fe
   |non=>cases hy.non; cases ry; exact⟨SeqAt.EqAt.tuple_none p1 hu0,SeqAt.RcAt.tuple_none p1 hu0⟩
   |bl b=>cases hy.bl; cases ry; exact⟨SeqAt.EqAt.tuple_bool b p1 hu0,SeqAt.RcAt.tuple_bool b p1 hu0⟩
   |int b=>cases hy.int; obtain⟨t,rfl⟩:=ry; exact⟨SeqAt.EqAt.tuple_int b t p1 hu0,SeqAt.RcAt.tuple_int b t p1 hu0⟩
   |str b=>cases hy.str; obtain⟨t,rfl⟩:=ry; exact⟨SeqAt.EqAt.tuple_str b t p1 hu0,SeqAt.RcAt.tuple_str b t p1 hu0⟩
   |tup es=>
    obtain⟨b,ys,its2,rfl,hq2,iy,r2,p2⟩:=isD_tuple I hy
    cases ry
    have l1:=ix.length
    have l2:=iy.length
    have l3:=r1.length
    have l4:=r2.length
    simp only[M.flat]at f fe
    have he:∀ j (h1:j<its.toArray.size) (h2:j<its2.toArray.size),SeqAt.EqAt A.in1 s its.toArray[j] its2.toArray[j] (pairE ds es j):=by
     intro j h1 h2
     rw[List.size_toArray]at h1 h2
     have j1:j<ds.length:=by omega
     have j2:j<es.length:=by omega
     have g1:ds[j]?=some ds[j]:=by simp
     have g2:es[j]?=some es[j]:=by simp
     obtain⟨x1,k1,q1⟩:=ix.get g1
     obtain⟨x2,k2,q2⟩:=iy.get g2
     obtain⟨u1,w1,z1⟩:=r1.get k1
     obtain⟨u2,w2,z2⟩:=r2.get k2
     have fl:∀ (l:List D) (k:Nat) (hk:k<l.length),M.flats n l=true→M.flat n l[k]=true:=by
      intro l
      induction l with
      |nil=>intro k hk; cases hk
      |cons c l ihl=>
       intro k hk hf
       simp only[M.flats,Bool.and_eq_true]at hf
       cases k with
       |zero=>exact hf.1
       |succ k=>exact ihl k (by simpa using hk) hf.2
     have:=(ih A.in1 ds[j] es[j] x1 x2 u1 u2 (by have hz:A.in1.units=A.units+1:=rfl; omega) (fl ds j j1 f) (fl es j j2 fe) q1 q2 z1 z2).1
     have e1:its.toArray[j]=u1:=by
      have:its[j]?=some its[j]:=by simp
      rw[w1]at this
      simpa using (Option.some.inj this).symm
     have e2:its2.toArray[j]=u2:=by
      have:its2[j]?=some its2[j]:=by simp
      rw[w2]at this
      simpa using (Option.some.inj this).symm
     rw[e1,e2]
     have e3:pairE ds es j=M.eqT ds[j] es[j]:=by
      unfold pairE
      rw[g1,g2]
     rw[e3]
     exact this
    have rc:SeqAt.RcAt A s (.ref a) (.ref b) (M.eqT (.tup ds) (.tup es)):=by
     have:=SeqAt.RcAt.tuples p1 p2 hu0 he
     simp only[M.eqT]
     rw[eqTs_pair,l1,l2,l3,l4]
     simpa using this
    refine⟨?_,rc⟩
    by_cases hab:a=b
    ·subst hab
     have:=I.tuple_inj hq hq2
     subst this
     have e0:=isDs_inj I n ds es xs f fe ix iy
     subst e0
     have e1:M.eqT (.tup ds) (.tup ds)=true:=by
      simp only[M.eqT]
      exact eqTs_refl n ds f
     rw[e1]
     exact SeqAt.EqAt.same _
    ·exact SeqAt.EqAt.of_refs hab rc
  |non=>
   cases hx.non; cases rx
   cases e with
   |loc _=>simp[M.flat]at fe
   |lst _=>simp[M.flat]at fe
   |tup es=>
    obtain⟨b,ys,its2,rfl,hq2,iy,r2,p2⟩:=isD_tuple I hy
    cases ry
    exact⟨SeqAt.EqAt.none_tuple p2 hu0,SeqAt.RcAt.none_tuple p2 hu0⟩
   |non=>cases hy.non; cases ry; exact⟨SeqAt.EqAt.same _,SeqAt.RcAt.none_none⟩
   |bl b=>cases hy.bl; cases ry; exact⟨SeqAt.EqAt.none_bool b,SeqAt.RcAt.none_bool b⟩
   |int b=>cases hy.int; obtain⟨t,rfl⟩:=ry; exact⟨SeqAt.EqAt.none_int b t,SeqAt.RcAt.none_int b t⟩
   |str b=>cases hy.str; obtain⟨t,rfl⟩:=ry; exact⟨SeqAt.EqAt.none_str b t,SeqAt.RcAt.none_str b t⟩
  |bl a=>
   cases hx.bl; cases rx
   cases e with
   |loc _=>simp[M.flat]at fe
   |lst _=>simp[M.flat]at fe
   |tup es=>
    obtain⟨b,ys,its2,rfl,hq2,iy,r2,p2⟩:=isD_tuple I hy
    cases ry
    exact⟨SeqAt.EqAt.bool_tuple a p2 hu0,SeqAt.RcAt.bool_tuple a p2 hu0⟩
   |non=>cases hy.non; cases ry; exact⟨SeqAt.EqAt.bool_none a,SeqAt.RcAt.bool_none a⟩
   |bl b=>cases hy.bl; cases ry; exact⟨SeqAt.EqAt.bool_bool a b,SeqAt.RcAt.bool_bool a b⟩
   |int b=>cases hy.int; obtain⟨t,rfl⟩:=ry; exact⟨SeqAt.EqAt.bool_int a b t,SeqAt.RcAt.bool_int a b t⟩
   |str b=>cases hy.str; obtain⟨t,rfl⟩:=ry; exact⟨SeqAt.EqAt.bool_str a b t,SeqAt.RcAt.bool_str a b t⟩
  |int a=>
   cases hx.int; obtain⟨t',rfl⟩:=rx
   cases e with
   |loc _=>simp[M.flat]at fe
   |lst _=>simp[M.flat]at fe
   |tup es=>
    obtain⟨b,ys,its2,rfl,hq2,iy,r2,p2⟩:=isD_tuple I hy
    cases ry
    exact⟨SeqAt.EqAt.int_tuple a t' p2 hu0,SeqAt.RcAt.int_tuple a t' p2 hu0⟩
   |non=>cases hy.non; cases ry; exact⟨SeqAt.EqAt.int_none a t',SeqAt.RcAt.int_none a t'⟩
   |bl b=>cases hy.bl; cases ry; exact⟨SeqAt.EqAt.int_bool a t' b,SeqAt.RcAt.int_bool a t' b⟩
   |int b=>cases hy.int; obtain⟨t,rfl⟩:=ry; exact⟨SeqAt.EqAt.int_int a t' b t,SeqAt.RcAt.int_int a t' b t⟩
   |str b=>cases hy.str; obtain⟨t,rfl⟩:=ry; exact⟨SeqAt.EqAt.int_str a t' b t,SeqAt.RcAt.int_str a t' b t⟩
  |str a=>
   cases hx.str; obtain⟨t',rfl⟩:=rx
   cases e with
   |loc _=>simp[M.flat]at fe
   |lst _=>simp[M.flat]at fe
   |tup es=>
    obtain⟨b,ys,its2,rfl,hq2,iy,r2,p2⟩:=isD_tuple I hy
    cases ry
    exact⟨SeqAt.EqAt.str_tuple a t' p2 hu0,SeqAt.RcAt.str_tuple a t' p2 hu0⟩
   |non=>cases hy.non; cases ry; exact⟨SeqAt.EqAt.str_none a t',SeqAt.RcAt.str_none a t'⟩
   |bl b=>cases hy.bl; cases ry; exact⟨SeqAt.EqAt.str_bool a t' b,SeqAt.RcAt.str_bool a t' b⟩
   |int b=>cases hy.int; obtain⟨t,rfl⟩:=ry; exact⟨SeqAt.EqAt.str_int a t' b t,SeqAt.RcAt.str_int a t' b t⟩
   |str b=>cases hy.str; obtain⟨t,rfl⟩:=ry; exact⟨SeqAt.EqAt.str_str a t' b t,SeqAt.RcAt.str_str a t' b t⟩
theorem flats_get:∀ {n:Nat}{l:List D}{k:Nat}{d:D},M.flats n l=true→l[k]?=some d→M.flat n d=true
 |_,[],_,_,_,e=>by simp at e
 |n,c::l,0,d,f,e=>by
  simp only[M.flats,Bool.and_eq_true]at f
  have e':c=d:=by simpa using e
  rw[← e']; exact f.1
 |n,c::l,k+1,d,f,e=>by
  simp only[M.flats,Bool.and_eq_true]at f
  exact flats_get (k:=k) f.2 (by simpa using e)
end
end
end MS
end
section
namespace MS
open PySem PySem.Spec PyProof.Rows L2
noncomputable def Its(z:Str):It:=⟨fun i _=>i<z.cps.toList.length,fun i H x H'=>H'=H∧∃ c,z.cps.toList[i]?=some c∧x=.str ⟨#[c]⟩,fun i _=>z.cps.toList.length≤i⟩
theorem turn_text{P:Program}{w:World}{K:PySem.W.Frag}{tg:Expr}(z:Str)(t:Tok)(it:Addr):Turn P w K tg (Its z) [it] it (fun i h=>h.IsStrIter it "str_ascii_iterator" z t i) where
 mem:=by simp
 obj:=fun i h st b hb=>by
  have e:b=it:=by simpa using hb
  subst e
  obtain⟨o,e,c,d⟩:=st
  exact⟨o,e,fun v q=>by rw[d]at q; cases q⟩
 keep:=fun i h h' st k=>by
  obtain⟨o,e,r⟩:=st
  exact⟨o,k it (by simp) o e,r⟩
 item:=by
  intro X hP hw hK hc i pins s σ H E I hf st hg
  subst hP hw hK
  obtain⟨f0,f1,f2,f3,f4,f5⟩:=hf it (by simp)
  have hi:i<z.cps.toList.length:=hg
  have hx:z.cps[i]?=some (z.cps.toList[i]):=by
   rw[← Array.getElem?_toList]
   exact List.getElem?_eq_getElem hi
  refine wpAny_pyNext_ascii_item st hx fun h' st' sb=>?_
  have I1:Inv X pins σ H { s with heap:=h',toks:=s.toks+1 }:=I.turned (fun b o hb e=>(sb.2 b hb).trans e) f0 f1 f3 f4 f5
  obtain⟨o,e,c,d⟩:=id st'
  exact⟨_,rfl,go_of (s:={ s with heap:=h',toks:=s.toks+1 }) e c d (by decide) ⟨.str ⟨#[z.cps.toList[i]]⟩,H,I1,⟨_,rfl⟩,⟨rfl,_,List.getElem?_eq_getElem hi,rfl⟩,st',fun b hb=>(hf b hb).1⟩⟩
 done:=by
  intro X hP hw hK hc i pins s σ H E I hf st hg
  subst hP hw hK
  obtain⟨f0,f1,f2,f3,f4,f5⟩:=hf it (by simp)
  have hi:z.cps.toList.length≤i:=hg
  have hx:z.cps[i]?=none:=by
   rw[← Array.getElem?_toList]
   exact List.getElem?_eq_none hi
  exact wpAny_pyNext_ascii_end (I.ok.hd hc) st hx fun h' eb=>⟨rfl,I.turned (t':=s.toks) (fun b o hb e=>eb b o hb e) f0 f1 f3 f4 f5⟩
 self:=fun _ _ _ _ _ st h=>wpAny_pyIter_striter_ascii st h
section
variable {X:Cx}
theorem oneOf_eq{z:Str}{c:Nat}(h:M.oneOf z=some c):z=⟨#[c]⟩:=by
 obtain⟨cs⟩:=z
 unfold M.oneOf at h
 split at h
 ·rename_i d hd
  cases h
  have:cs=#[c]:=by
   apply Array.toList_inj.mp
   simpa using hd
  rw[this]
 ·cases h
end
end MS
end
section
open PySem PyProof.Rows
namespace TS
noncomputable def gal:Bool→Keyed→Array Keyed→Nat→Nat→Nat→StateT SortSt Sem (Option Nat):=sortPriv% PySem.Builtin.gallop
section
variable {M:Model}{A:Around}{E:Value→Shared→Prop}{s:Shared}{κ:KeyKind}{k0:SortKind}
def LtR(M:Model)(A:Around)(E:Value→Shared→Prop)(s:Shared)(κ:KeyKind)(k0:SortKind):Prop:=
 ∀ (x y:Keyed) a b,κ.keyOf x.1=some a→κ.keyOf y.1=some b→∀ (Q:Option Bool→SortSt→Prop) st,kindOf st=k0→Q (some (κ.blt a b)) st→wpS M A E s (lt' x y) Q st
theorem keyAt{arr:Array Keyed}(h:KeysOf κ arr){i:Nat}(hi:i<arr.size):∃ x,arr[i]?=some x∧κ.keyOf x.1=some (KK κ arr i):=by
 have e:=getElem?_pos arr i hi
 have ⟨a,ha⟩:=h arr[i] (by simp)
 refine⟨arr[i],e,?_⟩
 unfold KK
 rw[e]
 simp only[ha,Option.getD_some]
noncomputable def ahd(κ:KeyKind)(left:Bool)(c:κ.α)(arr:Array Keyed)(base i:Nat):Bool:=if left then κ.blt (KK κ arr (base+i)) c else !κ.blt c (KK κ arr (base+i))
theorem bey(L:LtR M A E s κ k0){left:Bool}{key:Keyed}{arr:Array Keyed}{base i:Nat}{c:κ.α}{st:SortSt}{Q:Option Bool→SortSt→Prop}(hk:kindOf st=k0)(hc:κ.keyOf key.1=some c)
  (ho:KeysOf κ arr) (hi:base+i<arr.size) (h:Q (some (ahd κ left c arr base i)) st) :
  wpS M A E s (do let x ← elem' arr (base+i); if left=true then lt' x key else do { let r ← lt' key x; pure (Option.map (fun x=>!x) r) }) Q st:=by
 obtain⟨x,e,ha⟩:=keyAt ho hi
 rw[elem'_eq,e]
 refine wpS_bind (wpS_pure ?_)
 cases left with
 |true=>exact L x key _ _ ha hc _ _ hk h
 |false=>exact wpS_bind (L key x _ _ hc ha _ _ hk (wpS_pure h))
def Seg(κ:KeyKind)(xs:Array Keyed)(lo hi:Nat):Prop:=∀ i j,lo≤i→i≤j→j<hi→κ.kle (KK κ xs i) (KK κ xs j)
theorem ahd_anti{left:Bool}{c:κ.α}{arr:Array Keyed}{base n i j:Nat}(hs:Seg κ arr base (base+n))(hij:i≤j)(hj:j<n)(h:ahd κ left c arr base j=true):ahd κ left c arr base i=true:=by
 have q:=hs (base+i) (base+j) (by omega) (by omega) (by omega)
 unfold ahd at *
 cases left with
 |true=>exact KeyOrd.klt_of_kle_of_klt q h
 |false=>
  simp only[Bool.false_eq_true,if_false,Bool.not_eq_true']at h ⊢
  exact KeyOrd.kle_trans q h
theorem gal_ok(L:LtR M A E s κ k0){left:Bool}{key:Keyed}{arr:Array Keyed}{base n hint:Nat}{c:κ.α}{st:SortSt}{Q:Option Nat→SortSt→Prop}(hk:kindOf st=k0)(hc:κ.keyOf key.1=some c)
  (ho:KeysOf κ arr) (hb:base+n≤arr.size) (hh:hint<n) (hs:Seg κ arr base (base+n))
  (h:∀ k,k≤n→(∀ i,i<k→ahd κ left c arr base i=true)→(∀ i,k≤i→i<n→ahd κ left c arr base i=false)→Q (some k) st) :
  wpS M A E s (gal left key arr base n hint) Q st:=by
 have fin:∀ lo hi,lo≤hi→hi≤n→(∀ i,i<lo→ahd κ left c arr base i=true)→(∀ i,hi≤i→i<n→ahd κ left c arr base i=false)→
   wpS M A E s (forIn [:n] ((none:Option (Option Nat)),lo,hi) fun(x:Nat) __s=>
    if __s.2.1 ≥ __s.2.2 then pure (ForInStep.done (none,__s.2.1,__s.2.2)) else do
     let y ← (do let x ← elem' arr (base+(__s.2.1+(__s.2.2 - __s.2.1) / 2)); if left=true then lt' x key else do { let r ← lt' key x; pure (Option.map (fun x=>!x) r) })
     match y with
     |some more=>if more=true then pure (ForInStep.yield (none,__s.2.1+(__s.2.2 - __s.2.1) / 2+1,__s.2.2)) else pure (ForInStep.yield (none,__s.2.1,__s.2.1+(__s.2.2 - __s.2.1) / 2))
     |x=>pure (ForInStep.done (some none,__s.2.1,__s.2.2)))
    (fun r st'=>st'=st∧∃ k,r=(none,k,k)∧k≤n∧(∀ i,i<k→ahd κ left c arr base i=true)∧(∀ i,k≤i→i<n→ahd κ left c arr base i=false)) st:=by
  intro lo hi h1 h2 h3 h4
  refine wpS_forRange (I:=fun x r st'=>st'=st∧∃ lo hi,r=(none,lo,hi)∧lo≤hi∧hi≤n∧hi - lo≤n - x∧(∀ i,i<lo→ahd κ left c arr base i=true)∧(∀ i,hi≤i→i<n→ahd κ left c arr base i=false)) ?_ ?_ ⟨rfl,lo,hi,rfl,h1,h2,by omega,h3,h4⟩
  ·rintro x r st' _ hx ⟨rfl,lo,hi,rfl,a1,a2,a3,a4,a5⟩
   dsimp only
   by_cases g:lo ≥ hi
   ·rw[if_pos g]
    have:lo=hi:=by omega
    subst this
    exact wpS_pure ⟨rfl,lo,rfl,a2,a4,a5⟩
   ·rw[if_neg g]
    refine wpS_bind (bey L hk hc ho (by omega) ?_)
    cases e:ahd κ left c arr base (lo+(hi - lo) / 2)
    ·exact wpS_pure ⟨rfl,lo,_,rfl,by omega,by omega,by omega,a4,fun i q1 q2=>by
      cases e2:ahd κ left c arr base i
      ·rfl
      ·rw[ahd_anti hs q1 q2 e2]at e; exact e⟩
    ·exact wpS_pure ⟨rfl,_,hi,rfl,by omega,by omega,by omega,fun i q=>ahd_anti hs (by omega) (by omega) e,a5⟩
  ·rintro r st' ⟨rfl,lo,hi,rfl,a1,a2,a3,a4,a5⟩
   have:lo=hi:=by omega
   subst this
   exact⟨rfl,lo,rfl,a2,a4,a5⟩
 unfold gal
 refine wpS_bind (bey L hk hc ho (by omega) ?_)
 dsimp only
 cases e0:ahd κ left c arr base hint with
 |true=>
  rw[if_pos rfl]
  refine wpS_bind (wpS_mono (wpS_forRange (I:=fun x r st'=>st'=st∧∃ l o,r=(none,l,o)∧l<o∧x<o∧hint+l<n∧ahd κ left c arr base (hint+l)=true)
   (Q:=fun r st'=>st'=st∧∃ l o,r=(none,l,o)∧l<o∧hint+l<n∧ahd κ left c arr base (hint+l)=true∧(n≤hint+o∨ahd κ left c arr base (hint+o)=false)) ?_ ?_ ⟨rfl,0,1,rfl,by omega,by omega,by omega,e0⟩) ?_)
  ·rintro x r st' _ hx ⟨rfl,l,o,rfl,a1,a2,a3,a4⟩
   dsimp only
   by_cases g:o ≥ n - hint
   ·rw[if_pos g]
    exact wpS_pure ⟨rfl,l,o,rfl,a1,a3,a4,.inl (by omega)⟩
   ·rw[if_neg g]
    refine wpS_bind (bey L hk hc ho (by omega) ?_)
    cases e:ahd κ left c arr base (hint+o)
    ·exact wpS_pure ⟨rfl,l,o,rfl,a1,a3,a4,.inr e⟩
    ·exact wpS_pure ⟨rfl,o,2*o+1,rfl,by omega,by omega,by omega,e⟩
  ·rintro r st' ⟨rfl,l,o,rfl,a1,a2,a3,a4⟩
   exact⟨rfl,l,o,rfl,a1,a3,a4,.inl (by omega)⟩
  ·rintro r st' ⟨rfl,l,o,rfl,a1,a3,a4,a5⟩
   dsimp only
   refine wpS_bind (wpS_mono (fin _ _ (by omega) (by omega) (fun i q=>ahd_anti hs (by omega) a3 a4) ?_) ?_)
   ·intro i q1 q2
    rcases a5 with g|g
    ·omega
    ·cases e2:ahd κ left c arr base i
     ·rfl
     ·rw[ahd_anti hs (by omega) q2 e2]at g; exact g
   ·rintro r st' ⟨rfl,k,rfl,b1,b2,b3⟩
    exact wpS_pure (h k b1 b2 b3)
 |false=>
  rw[if_neg (by decide)]
  refine wpS_bind (wpS_mono (wpS_forRange (I:=fun x r st'=>st'=st∧∃ l o,r=(none,l,o)∧l<o∧x<o∧l≤hint∧ahd κ left c arr base (hint - l)=false)
   (Q:=fun r st'=>st'=st∧∃ l o,r=(none,l,o)∧l<o∧l≤hint∧ahd κ left c arr base (hint - l)=false∧(hint+1≤o∨ahd κ left c arr base (hint - o)=true)) ?_ ?_ ⟨rfl,0,1,rfl,by omega,by omega,by omega,e0⟩) ?_)
  ·rintro x r st' _ hx ⟨rfl,l,o,rfl,a1,a2,a3,a4⟩
   dsimp only
   by_cases g:o ≥ hint+1
   ·rw[if_pos g]
    exact wpS_pure ⟨rfl,l,o,rfl,a1,a3,a4,.inl (by omega)⟩
   ·rw[if_neg g]
    refine wpS_bind (bey L hk hc ho (by omega) ?_)
    cases e:ahd κ left c arr base (hint - o)
    ·exact wpS_pure ⟨rfl,o,2*o+1,rfl,by omega,by omega,by omega,e⟩
    ·exact wpS_pure ⟨rfl,l,o,rfl,a1,a3,a4,.inr e⟩
  ·rintro r st' ⟨rfl,l,o,rfl,a1,a2,a3,a4⟩
   exact⟨rfl,l,o,rfl,a1,a3,a4,.inl (by omega)⟩
  ·rintro r st' ⟨rfl,l,o,rfl,a1,a3,a4,a5⟩
   dsimp only
   refine wpS_bind (wpS_mono (fin _ _ (by omega) (by omega) (fun i q=>?_) ?_) ?_)
   ·rcases a5 with g|g
    ·omega
    ·exact ahd_anti hs (by omega) (by omega) g
   ·intro i q1 q2
    cases e2:ahd κ left c arr base i
    ·rfl
    ·rw[ahd_anti hs q1 q2 e2]at a4; exact a4
   ·rintro r st' ⟨rfl,k,rfl,b1,b2,b3⟩
    exact wpS_pure (h k b1 b2 b3)
end
end TS
end
section
open PySem PyProof.Rows
namespace TS
structure MI (R:Keyed→Keyed→Prop) (o p q all:List Keyed):Prop where
 pm:(o++(p++q)).Perm all
 so:o.Pairwise R
 sp:p.Pairwise R
 sq:q.Pairwise R
 le:∀ x∈o,∀ y∈p++q,R x y
section
variable {R:Keyed→Keyed→Prop}{o p q all t:List Keyed}
theorem MI.mvA(m:MI R o (t++p) q all)(h:∀ x∈t,∀ y∈q,R x y):MI R (o++t) p q all:=by
 obtain⟨a,b,c,d,e⟩:=m
 rw[List.pairwise_append]at c
 refine⟨by simpa only[List.append_assoc] using a,List.pairwise_append.mpr ⟨b,c.1,fun x hx y hy=>e x hx y (List.mem_append_left _ (List.mem_append_left _ hy))⟩,c.2.1,d,fun x hx y hy=>?_⟩
 rcases List.mem_append.mp hx with g|g
 ·refine e x g y ?_
  rcases List.mem_append.mp hy with k|k
  ·exact List.mem_append_left _ (List.mem_append_right _ k)
  ·exact List.mem_append_right _ k
 ·rcases List.mem_append.mp hy with k|k
  ·exact c.2.2 x g y k
  ·exact h x g y k
theorem MI.flip(m:MI R o p q all):MI R o q p all:=
 ⟨((List.Perm.refl o).append List.perm_append_comm).trans m.pm,m.so,m.sq,m.sp,fun x hx y hy=>m.le x hx y (by rw[List.mem_append]at *; exact hy.symm)⟩
theorem MI.mvB(m:MI R o p (t++q) all)(h:∀ x∈t,∀ y∈p,R x y):MI R (o++t) p q all:=(m.flip.mvA h).flip
theorem MI.endA(m:MI R o p q all)(h:∀ x∈p,∀ y∈q,R x y):(o++p++q).Pairwise R∧(o++p++q).Perm all:=by
 rw[List.append_assoc]
 exact⟨List.pairwise_append.mpr ⟨m.so,List.pairwise_append.mpr ⟨m.sp,m.sq,h⟩,m.le⟩,m.pm⟩
theorem MI.endB(m:MI R o p q all)(h:∀ y∈q,∀ x∈p,R y x):(o++q++p).Pairwise R∧(o++q++p).Perm all:=m.flip.endA h
end
section
variable {κ:KeyKind}
noncomputable def ky(κ:KeyKind)(x:Keyed):κ.α:=(κ.keyOf x.1).getD κ.dflt
def kl(κ:KeyKind)(x y:Keyed):Prop:=κ.kle (ky κ x) (ky κ y)
theorem KK_at{xs:Array Keyed}{i:Nat}(h:i<xs.size):KK κ xs i=ky κ xs[i]:=by
 unfold KK ky
 rw[getElem?_pos xs i h]
theorem seg_of{xs:Array Keyed}{lo hi:Nat}(h:xs.toList.Pairwise (kl κ))(hh:hi≤xs.size):Seg κ xs lo hi:=by
 intro i j _ h2 h3
 rw[KK_at (by omega),KK_at (by omega)]
 by_cases e:i=j
 ·subst e; exact KeyOrd.kle_refl _
 ·have:=List.pairwise_iff_getElem.mp h i j (by simp; omega) (by simp; omega) (by omega)
  simp only[Array.getElem_toList]at this
  exact this
theorem drop_at{xs:Array Keyed}{i:Nat}(h:i<xs.size):xs.toList.drop i=xs[i]::xs.toList.drop (i+1):=by
 rw[List.drop_eq_getElem_cons (by simpa using h)]; simp
theorem ext_drop(xs:Array Keyed)(i:Nat):(xs.extract i xs.size).toList=xs.toList.drop i:=by
 rw[Array.toList_extract,List.extract_eq_take_drop]
 exact List.take_of_length_le (by simp)
theorem drop_ext(xs:Array Keyed)(i k:Nat):xs.toList.drop i=(xs.extract i (i+k)).toList++xs.toList.drop (i+k):=by
 have e:(xs.extract i (i+k)).toList=(xs.toList.drop i).take k:=by
  rw[Array.toList_extract,List.extract_eq_take_drop,Nat.add_sub_cancel_left]
 rw[e]
 conv=>lhs; rw[← List.take_append_drop k (xs.toList.drop i),List.drop_drop]
theorem mem_ext{xs:Array Keyed}{i j:Nat}{x:Keyed}(h:x∈(xs.extract i j).toList):∃ n,∃ hn:n<xs.size,i≤n∧n<j∧x=xs[n]:=by
 obtain⟨n,hn,rfl⟩:=List.getElem_of_mem h
 have hn':n<(xs.extract i j).size:=by rw[← Array.length_toList]; exact hn
 rw[Array.size_extract]at hn'
 refine⟨i+n,by omega,by omega,by omega,?_⟩
 simp
theorem mem_drop{xs:Array Keyed}{i:Nat}{x:Keyed}(h:x∈xs.toList.drop i):∃ n,∃ hn:n<xs.size,i≤n∧x=xs[n]:=by
 rw[← ext_drop]at h
 obtain⟨n,hn,h1,_,h3⟩:=mem_ext h
 exact⟨n,hn,h1,h3⟩
theorem has_key{xs:Array Keyed}(h:KeysOf κ xs){i:Nat}(hi:i<xs.size):κ.keyOf xs[i].1=some (ky κ xs[i]):=by
 obtain⟨x,e,g⟩:=keyAt h hi
 rw[getElem?_pos xs i hi]at e
 cases e
 rw[g,← KK_at hi]
theorem lt_le{a b:κ.α}(h:κ.blt a b=true):κ.kle a b:=KeyOrd.kle_of_klt h
theorem ahdR{c:κ.α}{xs:Array Keyed}{b i:Nat}(h:b+i<xs.size):(ahd κ false c xs b i=true→κ.kle (ky κ xs[b+i]) c)∧(ahd κ false c xs b i=false→κ.klt c (ky κ xs[b+i])):=by
 unfold ahd
 rw[KK_at h]
 simp only[Bool.false_eq_true,if_false,Bool.not_eq_true',Bool.not_eq_false']
 exact⟨id,id⟩
theorem ahdL{c:κ.α}{xs:Array Keyed}{b i:Nat}(h:b+i<xs.size):(ahd κ true c xs b i=true→κ.klt (ky κ xs[b+i]) c)∧(ahd κ true c xs b i=false→κ.kle c (ky κ xs[b+i])):=by
 unfold ahd
 rw[KK_at h]
 simp only[if_true]
 exact⟨id,id⟩
end
def Sm(s t:SortSt):Prop:=∃ g,t=SortSt.mk' (kindOf s) (arrOf s) (pendingOf s) g (failedOf s)
theorem Sm.refl(s:SortSt):Sm s s:=⟨gallopOf s,rfl⟩
theorem Sm.set{s t:SortSt}(h:Sm s t)(g:Nat):Sm s (SortSt.mk' (kindOf t) (arrOf t) (pendingOf t) g (failedOf t)):=by
 obtain⟨g',rfl⟩:=h
 exact⟨g,rfl⟩
theorem Sm.kind{s t:SortSt}(h:Sm s t){k:SortKind}(hk:kindOf s=k):kindOf t=k:=by
 obtain⟨g',rfl⟩:=h
 exact hk
section
variable {M:Model}{A:Around}{E:Value→Shared→Prop}{s:Shared}
theorem el{xs:Array Keyed}{i:Nat}{st:SortSt}{Q:Keyed→SortSt→Prop}(h:i<xs.size)(q:Q xs[i] st):wpS M A E s (elem' xs i) Q st:=by
 rw[elem'_eq,getElem?_pos xs i h]
 exact wpS_pure q
variable {σ α:Type}{c:Prop} [Decidable c]{p q:StateT σ Sem α}{Q:α→σ→Prop}{st:σ}
theorem wpS_yes(hc:c)(h:wpS M A E s p Q st):wpS M A E s (if c then p else q) Q st:=by rw[if_pos hc]; exact h
theorem wpS_nay(hc:¬ c)(h:wpS M A E s q Q st):wpS M A E s (if c then p else q) Q st:=by rw[if_neg hc]; exact h
theorem wpS_if(h:c→wpS M A E s p Q st)(h':¬ c→wpS M A E s q Q st):wpS M A E s (if c then p else q) Q st:=by
 split
 ·next g=>exact h g
 ·next g=>exact h' g
end
end TS
end
section
open PySem PyProof.Rows
namespace TS
noncomputable def mlo:Array Keyed→Array Keyed→StateT SortSt Sem (Array Keyed):=sortPriv% PySem.Builtin.mergeLo
section
variable {M:Model}{A:Around}{E:Value→Shared→Prop}{s:Shared}{κ:KeyKind}{k0:SortKind}
abbrev Jn(κ:KeyKind)(a b out:Array Keyed)(i j:Nat):Prop:=MI (kl κ) out.toList (a.toList.drop i) (b.toList.drop j) (a.toList++b.toList)
abbrev Fn(κ:KeyKind)(a b r:Array Keyed):Prop:=r.toList.Perm (a.toList++b.toList)∧r.toList.Pairwise (kl κ)
variable {a b out:Array Keyed}{i j:Nat}
theorem Jn.dn(m:Jn κ a b out i j)(h:i=a.size∨j=b.size):Fn κ a b (out++a.extract i++b.extract j):=by
 show(Array.toList _).Perm _∧_
 rw[Array.toList_append,Array.toList_append,ext_drop,ext_drop]
 refine(MI.endA m fun x hx y hy=>?_).symm
 rcases h with h|h
 ·rw[List.drop_of_length_le (by simp[h])]at hx; cases hx
 ·rw[List.drop_of_length_le (by simp[h])]at hy; cases hy
theorem Jn.la(m:Jn κ a b out i j)(h:i+1=a.size)(hl:∀ y∈b.toList,kl κ y a[i]):Fn κ a b (out++b.extract j++a.extract i):=by
 show(Array.toList _).Perm _∧_
 rw[Array.toList_append,Array.toList_append,ext_drop,ext_drop]
 refine(MI.endB m fun y hy x hx=>?_).symm
 rw[drop_at (by omega),List.drop_of_length_le (by simp[h]),List.mem_singleton]at hx
 subst hx
 exact hl y (List.mem_of_mem_drop hy)
theorem Jn.pa(m:Jn κ a b out i j)(h:i<a.size)(hl:∀ k,j≤k→(hk:k<b.size)→kl κ a[i] b[k]):Jn κ a b (out.push a[i]) (i+1) j:=by
 show MI _ (out.push a[i]).toList _ _ _
 rw[Array.toList_push]
 unfold Jn at m
 rw[drop_at h]at m
 refine MI.mvA m fun x hx y hy=>?_
 rw[List.mem_singleton]at hx
 subst hx
 obtain⟨n,hn,h1,rfl⟩:=mem_drop hy
 exact hl n h1 hn
theorem Jn.pb(m:Jn κ a b out i j)(h:j<b.size)(hl:∀ k,i≤k→(hk:k<a.size)→kl κ b[j] a[k]):Jn κ a b (out.push b[j]) i (j+1):=by
 show MI _ (out.push b[j]).toList _ _ _
 rw[Array.toList_push]
 unfold Jn at m
 rw[drop_at h]at m
 refine MI.mvB m fun x hx y hy=>?_
 rw[List.mem_singleton]at hx
 subst hx
 obtain⟨n,hn,h1,rfl⟩:=mem_drop hy
 exact hl n h1 hn
theorem Jn.ga(m:Jn κ a b out i j)(k:Nat)(hl:∀ n,i≤n→n<i+k→(hn:n<a.size)→∀ k,j≤k→(hk:k<b.size)→kl κ a[n] b[k]):Jn κ a b (out++a.extract i (i+k)) (i+k) j:=by
 show MI _ (out++a.extract i (i+k)).toList _ _ _
 rw[Array.toList_append]
 unfold Jn at m
 rw[drop_ext a i k]at m
 refine MI.mvA m fun x hx y hy=>?_
 obtain⟨n,hn,h1,h2,rfl⟩:=mem_ext hx
 obtain⟨u,hu,h3,rfl⟩:=mem_drop hy
 exact hl n h1 h2 hn u h3 hu
theorem Jn.gb(m:Jn κ a b out i j)(k:Nat)(hl:∀ n,j≤n→n<j+k→(hn:n<b.size)→∀ k,i≤k→(hk:k<a.size)→kl κ b[n] a[k]):Jn κ a b (out++b.extract j (j+k)) i (j+k):=by
 show MI _ (out++b.extract j (j+k)).toList _ _ _
 rw[Array.toList_append]
 unfold Jn at m
 rw[drop_ext b j k]at m
 refine MI.mvB m fun x hx y hy=>?_
 obtain⟨n,hn,h1,h2,rfl⟩:=mem_ext hx
 obtain⟨u,hu,h3,rfl⟩:=mem_drop hy
 exact hl n h1 h2 hn u h3 hu
theorem up{xs:Array Keyed}(h:xs.toList.Pairwise (kl κ)){i j:Nat}(hij:i≤j)(hj:j<xs.size):κ.kle (ky κ xs[i]) (ky κ xs[j]):=by
 have:=seg_of (lo:=0) (hi:=xs.size) h (Nat.le_refl _) i j (by omega) hij hj
 rwa [KK_at,KK_at]at this
theorem gR{c:κ.α}{xs:Array Keyed}{b k n:Nat}(h1:b≤n)(h2:n<xs.size)(hk:∀ i,i<k→ahd κ false c xs b i=true)(h:n<b+k):κ.kle (ky κ xs[n]) c:=by
 obtain⟨i,rfl⟩:=Nat.exists_eq_add_of_le h1
 exact(ahdR h2).1 (hk i (by omega))
theorem gR'{c:κ.α}{xs:Array Keyed}{b k n:Nat}(h1:b≤n)(h2:n<xs.size)(hk:∀ i,k≤i→i<xs.size - b→ahd κ false c xs b i=false)(h:b+k≤n):κ.kle c (ky κ xs[n]):=by
 obtain⟨i,rfl⟩:=Nat.exists_eq_add_of_le h1
 exact lt_le ((ahdR h2).2 (hk i (by omega) (by omega)))
theorem gL{c:κ.α}{xs:Array Keyed}{b k n:Nat}(h1:b≤n)(h2:n<xs.size)(hk:∀ i,i<k→ahd κ true c xs b i=true)(h:n<b+k):κ.kle (ky κ xs[n]) c:=by
 obtain⟨i,rfl⟩:=Nat.exists_eq_add_of_le h1
 exact lt_le ((ahdL h2).1 (hk i (by omega)))
theorem gL'{c:κ.α}{xs:Array Keyed}{b k n:Nat}(h1:b≤n)(h2:n<xs.size)(hk:∀ i,k≤i→i<xs.size - b→ahd κ true c xs b i=false)(h:b+k≤n):κ.kle c (ky κ xs[n]):=by
 obtain⟨i,rfl⟩:=Nat.exists_eq_add_of_le h1
 exact(ahdL h2).2 (hk i (by omega) (by omega))
theorem mlo_ok(L:LtR M A E s κ k0){st:SortSt}{Q:Array Keyed→SortSt→Prop}(hk:kindOf st=k0)(ha:KeysOf κ a)(hb:KeysOf κ b)(sa:a.toList.Pairwise (kl κ))(sb:b.toList.Pairwise (kl κ))
  (a1:0<a.size) (b1:0<b.size) (hf:κ.klt (ky κ b[0]) (ky κ a[0])) (hl:∀ y∈b.toList,kl κ y a[a.size - 1])
  (h:∀ r st',Sm st st'→Fn κ a b r→Q r st'):wpS M A E s (mlo a b) Q st:=by
 have la:∀ {out:Array Keyed}{i j:Nat},Jn κ a b out i j→i+1=a.size→Fn κ a b (out++b.extract j++a.extract i):=fun {out i j} m e=>m.la e fun y hy=>by
  have:=hl y hy
  have e:i=a.size - 1:=by omega
  subst e
  exact this
 have m0:Jn κ a b #[b[0]] 0 1:=by
  have m:Jn κ a b #[] 0 0:=⟨List.Perm.refl _,.nil,sa,sb,fun x hx=>nomatch hx⟩
  exact m.pb b1 fun k _ hk=>KeyOrd.kle_trans (lt_le hf) (up sa (Nat.zero_le k) hk)
 unfold mlo
 refine wpS_bind (wpS_lift (wpAny_rule ⟨rfl,?_⟩))
 refine wpS_bind (el b1 ?_)
 by_cases e1:1=b.size
 ·exact wpS_yes (by simpa using e1) (wpS_pure (h _ _ (Sm.refl _) (m0.dn (.inr e1))))
 refine wpS_nay (by simpa using e1) ?_
 by_cases e2:0+1=a.size
 ·exact wpS_yes (by simpa using e2) (wpS_pure (h _ _ (Sm.refl _) (la m0 e2)))
 refine wpS_nay (by simpa using e2) ?_
 refine wpS_bind (wpS_get ?_)
 refine wpS_bind (wpS_mono (wpS_forRange (I:=fun x c st'=>Sm st st'∧∃ out i j g,c=(none,out,i,j,g)∧Jn κ a b out i j∧i+1<a.size∧j<b.size∧x≤i+j)
  (Q:=fun c st'=>Sm st st'∧∃ r rest,c=(some r,rest)∧Fn κ a b r) ?_ ?_ ⟨Sm.refl _,_,_,_,_,rfl,m0,by omega,by omega,by omega⟩) ?_)
 ·rintro x c st1 _ hx ⟨hS,out,i,j,g,rfl,m,h1,h2,h3⟩
  have hk1:=hS.kind hk
  refine wpS_bind (wpS_mono (wpS_forRange (I:=fun y c st'=>st'=st1∧∃ out i' j' ac bc,c=(none,out,i',j',ac,bc)∧Jn κ a b out i' j'∧i'+1<a.size∧j'<b.size∧i+j+y≤i'+j')
   (Q:=fun c st'=>st'=st1∧((∃ out i' j' ac bc,c=(none,out,i',j',ac,bc)∧Jn κ a b out i' j'∧i'+1<a.size∧j'<b.size∧i+j+1≤i'+j')∨∃ r rest,c=(some r,rest)∧Fn κ a b r)) ?_ ?_ ⟨rfl,_,_,_,_,_,rfl,m,h1,h2,Nat.le_refl _⟩) ?_)
  ·rintro y c st' _ hy ⟨rfl,out,i',j',ac,bc,rfl,m,h1,h2,h4⟩
   refine wpS_bind (el h2 (wpS_bind (el (xs:=a) (i:=i') (by omega) (wpS_bind (L _ _ _ _ (has_key hb h2) (has_key ha (by omega)) _ _ hk1 ?_)))))
   cases e:κ.blt (ky κ b[j']) (ky κ a[i'])
   ·refine wpS_bind (el (xs:=a) (i:=i') (by omega) ?_)
    have m':=m.pa (by omega) fun k q1 q2=>KeyOrd.kle_trans (show κ.kle _ _ from e) (up sb q1 q2)
    by_cases g1:i'+1+1=a.size
    ·exact wpS_yes (by simpa using g1) (wpS_pure ⟨rfl,.inr ⟨_,_,rfl,la m' g1⟩⟩)
    ·have n1:i'+1+1<a.size:=by omega
     have n2:i+j+1≤i'+1+j':=by omega
     have n3:i+j+(y+1)≤i'+1+j':=by omega
     exact wpS_nay (by simpa using g1) (wpS_if (fun _=>wpS_pure ⟨rfl,.inl ⟨_,_,_,_,_,rfl,m',n1,h2,n2⟩⟩) fun _=>wpS_pure ⟨rfl,_,_,_,_,_,rfl,m',n1,h2,n3⟩)
   ·refine wpS_bind (el h2 ?_)
    have m':=m.pb h2 fun k q1 q2=>KeyOrd.kle_trans (lt_le e) (up sa q1 q2)
    by_cases g1:j'+1=b.size
    ·exact wpS_yes (by simpa using g1) (wpS_pure ⟨rfl,.inr ⟨_,_,rfl,m'.dn (.inr g1)⟩⟩)
    ·have n1:j'+1<b.size:=by omega
     have n2:i+j+1≤i'+(j'+1):=by omega
     have n3:i+j+(y+1)≤i'+(j'+1):=by omega
     exact wpS_nay (by simpa using g1) (wpS_if (fun _=>wpS_pure ⟨rfl,.inl ⟨_,_,_,_,_,rfl,m',h1,n1,n2⟩⟩) fun _=>wpS_pure ⟨rfl,_,_,_,_,_,rfl,m',h1,n1,n3⟩)
  ·rintro c st' ⟨rfl,out,i',j',ac,bc,rfl,m,h1,h2,h4⟩
   exact⟨rfl,.inl ⟨_,_,_,_,_,rfl,m,h1,h2,by omega⟩⟩
  ·rintro c st' ⟨rfl,⟨out,i',j',ac,bc,rfl,m,h1,h2,h4⟩|⟨r,rest,rfl,hr⟩⟩
   ·refine wpS_bind (wpS_lift (wpAny_rule ⟨rfl,?_⟩))
    refine wpS_bind (wpS_mono (wpS_forRange (I:=fun y c st'=>Sm st st'∧∃ out u v g ac bc,c=(none,out,u,v,g,ac,bc)∧Jn κ a b out u v∧u+1<a.size∧v<b.size∧i'+j'≤u+v)
     (Q:=fun c st'=>Sm st st'∧((∃ out u v g ac bc,c=(none,out,u,v,g,ac,bc)∧Jn κ a b out u v∧u+1<a.size∧v<b.size∧i'+j'≤u+v)∨∃ r rest,c=(some r,rest)∧Fn κ a b r)) ?_ ?_ ⟨hS,_,_,_,_,_,_,rfl,m,h1,h2,Nat.le_refl _⟩) ?_)
    ·rintro y c st2 _ hy ⟨hS,out,u,v,g,ac,bc,rfl,m,h1,h2,h5⟩
     have hS2:=fun g=>hS.set g
     refine wpS_if (fun _=>?_) fun _=>?_
     all_goals
      refine wpS_bind (wpS_modify ?_)
      refine wpS_bind (el h2 (wpS_bind (gal_ok L (left:=false) (arr:=a) (base:=u) (n:=a.size - u) (hint:=0) (c:=ky κ b[v]) ((hS2 _).kind hk) (has_key hb h2) ha (by omega) (by omega) (seg_of sa (by omega)) fun k k1 k2 k3=>?_)))
      have mA:=m.ga k fun n q1 q2 q3 w w1 w2=>KeyOrd.kle_trans (gR q1 q3 k2 q2) (up sb w1 w2)
      have f1:∀ n,u+k≤n→(hn:n<a.size)→kl κ b[v] a[n]:=fun n q1 q2=>gR' (b:=u) (by omega) q2 k3 q1
      have S:u+k+1≠a.size→u+k≠a.size→u+k+1<a.size:=fun _ _=>by omega
      by_cases kz:k > 0
      ·refine wpS_yes kz ?_
       by_cases g1:u+k+1=a.size
       ·exact wpS_yes (by simpa using g1) (wpS_pure ⟨hS2 _,.inr ⟨_,_,rfl,la mA g1⟩⟩)
       refine wpS_nay (by simpa using g1) ?_
       by_cases g2:u+k=a.size
       ·exact wpS_yes (by simpa using g2) (wpS_pure ⟨hS2 _,.inr ⟨_,_,rfl,mA.dn (.inl g2)⟩⟩)
       refine wpS_nay (by simpa using g2) ?_
       have u1:=S g1 g2
       refine wpS_bind (el h2 ?_)
       have mB:=Jn.pb mA h2 f1
       by_cases g3:v+1=b.size
       ·exact wpS_yes (by simpa using g3) (wpS_pure ⟨hS2 _,.inr ⟨_,_,rfl,mB.dn (.inr g3)⟩⟩)
       refine wpS_nay (by simpa using g3) ?_
       have v1:v+1<b.size:=by omega
       refine wpS_bind (el (xs:=a) (i:=(u+k)) (by omega) (wpS_bind (gal_ok L (left:=true) (arr:=b) (base:=v+1) (n:=b.size - (v+1)) (hint:=0) (c:=ky κ a[(u+k)]) ((hS2 _).kind hk) (has_key ha (by omega)) hb (by omega) (by omega) (seg_of sb (by omega)) fun l l1 l2 l3=>?_)))
       have mC:=mB.gb l fun n q1 q2 q3 w w1 w2=>KeyOrd.kle_trans (gL q1 q3 l2 q2) (up sa w1 w2)
       have f2:∀ n,v+1+l≤n→(hn:n<b.size)→kl κ a[(u+k)] b[n]:=fun n q1 q2=>gL' (b:=v+1) (by omega) q2 l3 q1
       by_cases lz:l > 0
       ·refine wpS_yes lz ?_
        by_cases g4:v+1+l=b.size
        ·exact wpS_yes (by simpa using g4) (wpS_pure ⟨hS2 _,.inr ⟨_,_,rfl,mC.dn (.inr g4)⟩⟩)
        refine wpS_nay (by simpa using g4) ?_
        refine wpS_bind (el (xs:=a) (i:=(u+k)) (by omega) ?_)
        have mD:=mC.pa (by omega) f2
        by_cases g5:(u+k)+1+1=a.size
        ·exact wpS_yes (by simpa using g5) (wpS_pure ⟨hS2 _,.inr ⟨_,_,rfl,la mD g5⟩⟩)
        have n1:(u+k)+1+1<a.size:=by omega
        have n2:v+1+l<b.size:=by omega
        have n3:i'+j'≤(u+k)+1+(v+1+l):=by omega
        exact wpS_nay (by simpa using g5) (wpS_if (fun _=>wpS_pure ⟨hS2 _,.inl ⟨_,_,_,_,_,_,rfl,mD,n1,n2,n3⟩⟩) fun _=>wpS_pure ⟨hS2 _,_,_,_,_,_,_,rfl,mD,n1,n2,n3⟩)
       ·have lq:l=0:=by omega
        subst lq
        refine wpS_nay lz ?_
        refine wpS_bind (el (xs:=a) (i:=(u+k)) (by omega) ?_)
        have mD:=mB.pa (by omega) f2
        by_cases g5:(u+k)+1+1=a.size
        ·exact wpS_yes (by simpa using g5) (wpS_pure ⟨hS2 _,.inr ⟨_,_,rfl,la mD g5⟩⟩)
        have n1:(u+k)+1+1<a.size:=by omega
        have n3:i'+j'≤(u+k)+1+(v+1):=by omega
        exact wpS_nay (by simpa using g5) (wpS_if (fun _=>wpS_pure ⟨hS2 _,.inl ⟨_,_,_,_,_,_,rfl,mD,n1,v1,n3⟩⟩) fun _=>wpS_pure ⟨hS2 _,_,_,_,_,_,_,rfl,mD,n1,v1,n3⟩)
      ·have kq:k=0:=by omega
       subst kq
       refine wpS_nay kz ?_
       refine wpS_bind (el h2 ?_)
       have mB:=Jn.pb m h2 f1
       by_cases g3:v+1=b.size
       ·exact wpS_yes (by simpa using g3) (wpS_pure ⟨hS2 _,.inr ⟨_,_,rfl,mB.dn (.inr g3)⟩⟩)
       refine wpS_nay (by simpa using g3) ?_
       have v1:v+1<b.size:=by omega
       refine wpS_bind (el (xs:=a) (i:=u) (by omega) (wpS_bind (gal_ok L (left:=true) (arr:=b) (base:=v+1) (n:=b.size - (v+1)) (hint:=0) (c:=ky κ a[u]) ((hS2 _).kind hk) (has_key ha (by omega)) hb (by omega) (by omega) (seg_of sb (by omega)) fun l l1 l2 l3=>?_)))
       have mC:=mB.gb l fun n q1 q2 q3 w w1 w2=>KeyOrd.kle_trans (gL q1 q3 l2 q2) (up sa w1 w2)
       have f2:∀ n,v+1+l≤n→(hn:n<b.size)→kl κ a[u] b[n]:=fun n q1 q2=>gL' (b:=v+1) (by omega) q2 l3 q1
       by_cases lz:l > 0
       ·refine wpS_yes lz ?_
        by_cases g4:v+1+l=b.size
        ·exact wpS_yes (by simpa using g4) (wpS_pure ⟨hS2 _,.inr ⟨_,_,rfl,mC.dn (.inr g4)⟩⟩)
        refine wpS_nay (by simpa using g4) ?_
        refine wpS_bind (el (xs:=a) (i:=u) (by omega) ?_)
        have mD:=mC.pa (by omega) f2
        by_cases g5:u+1+1=a.size
        ·exact wpS_yes (by simpa using g5) (wpS_pure ⟨hS2 _,.inr ⟨_,_,rfl,la mD g5⟩⟩)
        have n1:u+1+1<a.size:=by omega
        have n2:v+1+l<b.size:=by omega
        have n3:i'+j'≤u+1+(v+1+l):=by omega
        exact wpS_nay (by simpa using g5) (wpS_if (fun _=>wpS_pure ⟨hS2 _,.inl ⟨_,_,_,_,_,_,rfl,mD,n1,n2,n3⟩⟩) fun _=>wpS_pure ⟨hS2 _,_,_,_,_,_,_,rfl,mD,n1,n2,n3⟩)
       ·have lq:l=0:=by omega
        subst lq
        refine wpS_nay lz ?_
        refine wpS_bind (el (xs:=a) (i:=u) (by omega) ?_)
        have mD:=mB.pa (by omega) f2
        by_cases g5:u+1+1=a.size
        ·exact wpS_yes (by simpa using g5) (wpS_pure ⟨hS2 _,.inr ⟨_,_,rfl,la mD g5⟩⟩)
        have n1:u+1+1<a.size:=by omega
        have n3:i'+j'≤u+1+(v+1):=by omega
        exact wpS_nay (by simpa using g5) (wpS_if (fun _=>wpS_pure ⟨hS2 _,.inl ⟨_,_,_,_,_,_,rfl,mD,n1,v1,n3⟩⟩) fun _=>wpS_pure ⟨hS2 _,_,_,_,_,_,_,rfl,mD,n1,v1,n3⟩)
    ·rintro c st2 ⟨hS,h⟩
     exact⟨hS,.inl h⟩
    ·rintro c st2 ⟨hS,⟨out,u,v,g,ac,bc,rfl,m,h1,h2,h5⟩|⟨r,rest,rfl,hr⟩⟩
     ·have n1:x+1≤u+v:=by omega
      exact wpS_bind (wpS_modify (wpS_pure ⟨hS.set _,_,_,_,_,rfl,m,h1,h2,n1⟩))
     ·exact wpS_pure ⟨hS,r,_,rfl,hr⟩
   ·exact wpS_pure ⟨hS,r,_,rfl,hr⟩
 ·rintro c st' ⟨hS,out,i,j,g,rfl,m,h1,h2,h3⟩
  omega
 ·rintro c st' ⟨hS,r,rest,rfl,hr⟩
  exact wpS_pure (h r st' hS hr)
end
end TS
end
section
open PySem PyProof.Rows
namespace TS
noncomputable def mhi:Array Keyed→Array Keyed→StateT SortSt Sem (Array Keyed):=sortPriv% PySem.Builtin.mergeHi
section
variable {M:Model}{A:Around}{E:Value→Shared→Prop}{s:Shared}{κ:KeyKind}{k0:SortKind}
def lk(κ:KeyKind)(x y:Keyed):Prop:=kl κ y x
abbrev Jh(κ:KeyKind)(a b out:Array Keyed)(i j:Nat):Prop:=MI (lk κ) out.toList (a.toList.take i).reverse (b.toList.take j).reverse (a.toList++b.toList)
variable {a b out:Array Keyed}{i j:Nat}
theorem take_at{xs:Array Keyed}{n:Nat}(h0:0<n)(h:n≤xs.size):(xs.toList.take n).reverse=xs[n - 1]::(xs.toList.take (n - 1)).reverse:=by
 obtain⟨m,rfl⟩:∃ m,n=m+1:=⟨n - 1,by omega⟩
 rw[List.take_succ_eq_append_getElem (by rw[Array.length_toList]; omega),List.reverse_append]
 simp
theorem ext_take(xs:Array Keyed)(n:Nat):(xs.extract 0 n).toList=xs.toList.take n:=by
 rw[Array.toList_extract,List.extract_eq_take_drop]; rfl
theorem take_ext(xs:Array Keyed){t n:Nat}(h:t≤n):(xs.toList.take n).reverse=(xs.extract t n).toList.reverse++(xs.toList.take t).reverse:=by
 have e:(xs.extract t n).toList=(xs.toList.take n).drop t:=by
  rw[Array.toList_extract,List.extract_eq_take_drop,List.drop_take]
 rw[e,← List.reverse_append]
 congr 1
 conv=>lhs; rw[← List.take_append_drop t (xs.toList.take n),List.take_take,Nat.min_eq_left h]
theorem mem_take{xs:Array Keyed}{n:Nat}{x:Keyed}(h:x∈(xs.toList.take n).reverse):∃ i,∃ hi:i<xs.size,i<n∧x=xs[i]:=by
 rw[List.mem_reverse,← ext_take]at h
 obtain⟨i,hi,_,h2,h3⟩:=mem_ext h
 exact⟨i,hi,h2,h3⟩
theorem fin_of{l:List Keyed}{r:Array Keyed}(e:r.toList=l.reverse)(h:l.Pairwise (lk κ)∧l.Perm (a.toList++b.toList)):Fn κ a b r:=by
 show r.toList.Perm _∧_
 rw[e]
 exact⟨(List.reverse_perm l).trans h.2,List.pairwise_reverse.mpr h.1⟩
theorem Jh.dn(m:Jh κ a b out i j)(h:i=0∨j=0):Fn κ a b (a.extract 0 i++b.extract 0 j++out.reverse):=by
 refine fin_of ?_ (MI.endB m fun y hy x hx=>?_)
 ·rw[Array.toList_append,Array.toList_append,ext_take,ext_take,Array.toList_reverse]
  simp only[List.reverse_append,List.reverse_reverse,List.append_assoc]
 ·rcases h with h|h
  ·subst h; cases hx
  ·subst h; cases hy
theorem Jh.fb(m:Jh κ a b out i j)(h:j=1)(b1:0<b.size)(hf:∀ n,(hn:n<a.size)→kl κ b[0] a[n]):Fn κ a b (b.extract 0 j++a.extract 0 i++out.reverse):=by
 refine fin_of ?_ (MI.endA m fun x hx y hy=>?_)
 ·rw[Array.toList_append,Array.toList_append,ext_take,ext_take,Array.toList_reverse]
  simp only[List.reverse_append,List.reverse_reverse,List.append_assoc]
 ·obtain⟨n,hn,_,rfl⟩:=mem_take hx
  obtain⟨k,hk,h2,rfl⟩:=mem_take hy
  have:k=0:=by omega
  subst this
  exact hf n hn
theorem Jh.pa(m:Jh κ a b out i j)(h0:0<i)(h:i≤a.size)(hl:∀ k,k<j→(hk:k<b.size)→kl κ b[k] a[i - 1]):Jh κ a b (out.push a[i - 1]) (i - 1) j:=by
 show MI _ (out.push a[i - 1]).toList _ _ _
 rw[Array.toList_push]
 unfold Jh at m
 rw[take_at h0 h]at m
 refine MI.mvA m fun x hx y hy=>?_
 rw[List.mem_singleton]at hx
 subst hx
 obtain⟨n,hn,h1,rfl⟩:=mem_take hy
 exact hl n h1 hn
theorem Jh.pb(m:Jh κ a b out i j)(h0:0<j)(h:j≤b.size)(hl:∀ k,k<i→(hk:k<a.size)→kl κ a[k] b[j - 1]):Jh κ a b (out.push b[j - 1]) i (j - 1):=by
 show MI _ (out.push b[j - 1]).toList _ _ _
 rw[Array.toList_push]
 unfold Jh at m
 rw[take_at h0 h]at m
 refine MI.mvB m fun x hx y hy=>?_
 rw[List.mem_singleton]at hx
 subst hx
 obtain⟨n,hn,h1,rfl⟩:=mem_take hy
 exact hl n h1 hn
theorem Jh.ga(m:Jh κ a b out i j){t:Nat}(ht:t≤i)(hl:∀ n,t≤n→n<i→(hn:n<a.size)→∀ k,k<j→(hk:k<b.size)→kl κ b[k] a[n]):Jh κ a b (out++(a.extract t i).reverse) t j:=by
 show MI _ (out++(a.extract t i).reverse).toList _ _ _
 rw[Array.toList_append,Array.toList_reverse]
 unfold Jh at m
 rw[take_ext a ht]at m
 refine MI.mvA m fun x hx y hy=>?_
 obtain⟨n,hn,h1,h2,rfl⟩:=mem_ext (List.mem_reverse.mp hx)
 obtain⟨u,hu,h3,rfl⟩:=mem_take hy
 exact hl n h1 h2 hn u h3 hu
theorem Jh.gb(m:Jh κ a b out i j){t:Nat}(ht:t≤j)(hl:∀ n,t≤n→n<j→(hn:n<b.size)→∀ k,k<i→(hk:k<a.size)→kl κ a[k] b[n]):Jh κ a b (out++(b.extract t j).reverse) i t:=by
 show MI _ (out++(b.extract t j).reverse).toList _ _ _
 rw[Array.toList_append,Array.toList_reverse]
 unfold Jh at m
 rw[take_ext b ht]at m
 refine MI.mvB m fun x hx y hy=>?_
 obtain⟨n,hn,h1,h2,rfl⟩:=mem_ext (List.mem_reverse.mp hx)
 obtain⟨u,hu,h3,rfl⟩:=mem_take hy
 exact hl n h1 h2 hn u h3 hu
theorem hR{c:κ.α}{xs:Array Keyed}{k n:Nat}(h2:n<xs.size)(hk:∀ i,i<k→ahd κ false c xs 0 i=true)(h:n<k):κ.kle (ky κ xs[n]) c:=gR (b:=0) (Nat.zero_le _) h2 hk (by omega)
theorem hR'{c:κ.α}{xs:Array Keyed}{k n N:Nat}(h2:n<xs.size)(hk:∀ i,k≤i→i<N→ahd κ false c xs 0 i=false)(h:k≤n)(hN:n<N):κ.kle c (ky κ xs[n]):=by
 have z:=(ahdR (c:=c) (b:=0) (i:=n) (by omega)).2 (hk n h hN)
 simp only[Nat.zero_add]at z
 exact lt_le z
theorem hL{c:κ.α}{xs:Array Keyed}{k n:Nat}(h2:n<xs.size)(hk:∀ i,i<k→ahd κ true c xs 0 i=true)(h:n<k):κ.kle (ky κ xs[n]) c:=gL (b:=0) (Nat.zero_le _) h2 hk (by omega)
theorem hL'{c:κ.α}{xs:Array Keyed}{k n N:Nat}(h2:n<xs.size)(hk:∀ i,k≤i→i<N→ahd κ true c xs 0 i=false)(h:k≤n)(hN:n<N):κ.kle c (ky κ xs[n]):=by
 have z:=(ahdL (c:=c) (b:=0) (i:=n) (by omega)).2 (hk n h hN)
 simp only[Nat.zero_add]at z
 exact z
theorem mhi_ok(L:LtR M A E s κ k0){st:SortSt}{Q:Array Keyed→SortSt→Prop}(hk:kindOf st=k0)(ha:KeysOf κ a)(hb:KeysOf κ b)(sa:a.toList.Pairwise (kl κ))(sb:b.toList.Pairwise (kl κ))
  (a1:0<a.size) (b1:0<b.size) (hf:κ.klt (ky κ b[0]) (ky κ a[0])) (hl:∀ y∈b.toList,kl κ y a[a.size - 1])
  (h:∀ r st',Sm st st'→Fn κ a b r→Q r st'):wpS M A E s (mhi a b) Q st:=by
 have hf':∀ n,(hn:n<a.size)→kl κ b[0] a[n]:=fun n hn=>KeyOrd.kle_trans (lt_le hf) (up sa (Nat.zero_le n) hn)
 have m0:Jh κ a b #[a[a.size - 1]] (a.size - 1) b.size:=by
  have m:Jh κ a b #[] a.size b.size:=by
   refine⟨?_,.nil,?_,?_,fun x hx=>nomatch hx⟩
   ·rw[List.take_of_length_le (by simp),List.take_of_length_le (by simp)]
    exact(List.reverse_perm _).append (List.reverse_perm _)
   ·rw[List.take_of_length_le (by simp)]
    exact List.pairwise_reverse.mpr sa
   ·rw[List.take_of_length_le (by simp)]
    exact List.pairwise_reverse.mpr sb
  exact m.pa a1 (Nat.le_refl _) fun k _ hk=>hl _ (by simp)
 unfold mhi
 refine wpS_bind (wpS_lift (wpAny_rule ⟨rfl,?_⟩))
 refine wpS_bind (el (xs:=a) (i:=a.size - 1) (by omega) ?_)
 by_cases e1:a.size - 1=0
 ·exact wpS_yes (by simpa using e1) (wpS_pure (h _ _ (Sm.refl _) (m0.dn (.inl e1))))
 refine wpS_nay (by simpa using e1) ?_
 by_cases e2:b.size=1
 ·exact wpS_yes (by simpa using e2) (wpS_pure (h _ _ (Sm.refl _) (m0.fb e2 b1 hf')))
 refine wpS_nay (by simpa using e2) ?_
 refine wpS_bind (wpS_get ?_)
 refine wpS_bind (wpS_mono (wpS_forRange (I:=fun x c st'=>Sm st st'∧∃ i j out g,c=(none,i,j,out,g)∧Jh κ a b out i j∧0<i∧1<j∧i≤a.size∧j≤b.size∧x+(i+j)≤a.size+b.size)
  (Q:=fun c st'=>Sm st st'∧∃ r rest,c=(some r,rest)∧Fn κ a b r) ?_ ?_ ⟨Sm.refl _,_,_,_,_,rfl,m0,by omega,by omega,by omega,by omega,by omega⟩) ?_)
 ·rintro x c st1 _ hx ⟨hS,i,j,out,g,rfl,m,h1,h2,p1,p2,h3⟩
  have hk1:=hS.kind hk
  have y0:0+(i+j)≤i+j:=by omega
  refine wpS_bind (wpS_mono (wpS_forRange (I:=fun y c st'=>st'=st1∧∃ i' j' out ac bc,c=(none,i',j',out,ac,bc)∧Jh κ a b out i' j'∧0<i'∧1<j'∧i'≤a.size∧j'≤b.size∧y+(i'+j')≤i+j)
   (Q:=fun c st'=>st'=st1∧((∃ i' j' out ac bc,c=(none,i',j',out,ac,bc)∧Jh κ a b out i' j'∧0<i'∧1<j'∧i'≤a.size∧j'≤b.size∧i'+j'+1≤i+j)∨∃ r rest,c=(some r,rest)∧Fn κ a b r)) ?_ ?_ ⟨rfl,_,_,_,_,_,rfl,m,h1,h2,p1,p2,y0⟩) ?_)
  ·rintro y c st' _ hy ⟨rfl,i',j',out,ac,bc,rfl,m,h1,h2,p1,p2,h4⟩
   have u0:i' - 1<a.size:=by omega
   have v0:j' - 1<b.size:=by omega
   refine wpS_bind (el (xs:=b) (i:=j' - 1) v0 (wpS_bind (el (xs:=a) (i:=i' - 1) u0 (wpS_bind (L _ _ _ _ (has_key hb v0) (has_key ha u0) _ _ hk1 ?_)))))
   cases e:κ.blt (ky κ b[j' - 1]) (ky κ a[i' - 1])
   ·refine wpS_bind (el (xs:=b) (i:=j' - 1) v0 ?_)
    have m':=m.pb (by omega) p2 fun k q1 q2=>KeyOrd.kle_trans (up sa (by omega) u0) (show κ.kle _ _ from e)
    by_cases g1:j' - 1=1
    ·exact wpS_yes (by simpa using g1) (wpS_pure ⟨rfl,.inr ⟨_,_,rfl,m'.fb g1 b1 hf'⟩⟩)
    ·have n1:1<j' - 1:=by omega
     have n2:i'+(j' - 1)+1≤i+j:=by omega
     have n3:y+1+(i'+(j' - 1))≤i+j:=by omega
     have n5:j' - 1≤b.size:=by omega
     exact wpS_nay (by simpa using g1) (wpS_if (fun _=>wpS_pure ⟨rfl,.inl ⟨_,_,_,_,_,rfl,m',h1,n1,p1,n5,n2⟩⟩) fun _=>wpS_pure ⟨rfl,_,_,_,_,_,rfl,m',h1,n1,p1,n5,n3⟩)
   ·refine wpS_bind (el (xs:=a) (i:=i' - 1) u0 ?_)
    have m':=m.pa (by omega) p1 fun k q1 q2=>KeyOrd.kle_trans (up sb (by omega) v0) (lt_le e)
    by_cases g1:i' - 1=0
    ·exact wpS_yes (by simpa using g1) (wpS_pure ⟨rfl,.inr ⟨_,_,rfl,m'.dn (.inl g1)⟩⟩)
    ·have n1:0<i' - 1:=by omega
     have n2:i' - 1+j'+1≤i+j:=by omega
     have n3:y+1+(i' - 1+j')≤i+j:=by omega
     have n5:i' - 1≤a.size:=by omega
     exact wpS_nay (by simpa using g1) (wpS_if (fun _=>wpS_pure ⟨rfl,.inl ⟨_,_,_,_,_,rfl,m',n1,h2,n5,p2,n2⟩⟩) fun _=>wpS_pure ⟨rfl,_,_,_,_,_,rfl,m',n1,h2,n5,p2,n3⟩)
  ·rintro c st' ⟨rfl,i',j',out,ac,bc,rfl,m,h1,h2,p1,p2,h4⟩
   exact⟨rfl,.inl ⟨_,_,_,_,_,rfl,m,h1,h2,p1,p2,by omega⟩⟩
  ·rintro c st' ⟨rfl,⟨i',j',out,ac,bc,rfl,m,h1,h2,p1,p2,h4⟩|⟨r,rest,rfl,hr⟩⟩
   ·refine wpS_bind (wpS_lift (wpAny_rule ⟨rfl,?_⟩))
    refine wpS_bind (wpS_mono (wpS_forRange (I:=fun y c st'=>Sm st st'∧∃ u v out g ac bc,c=(none,u,v,out,g,ac,bc)∧Jh κ a b out u v∧0<u∧1<v∧u≤a.size∧v≤b.size∧u+v≤i'+j')
     (Q:=fun c st'=>Sm st st'∧((∃ u v out g ac bc,c=(none,u,v,out,g,ac,bc)∧Jh κ a b out u v∧0<u∧1<v∧u≤a.size∧v≤b.size∧u+v≤i'+j')∨∃ r rest,c=(some r,rest)∧Fn κ a b r)) ?_ ?_ ⟨hS,_,_,_,_,_,_,rfl,m,h1,h2,p1,p2,Nat.le_refl _⟩) ?_)
    ·rintro y c st2 _ hy ⟨hS,u,v,out,g,ac,bc,rfl,m,h1,h2,p1,p2,h5⟩
     have hS2:=fun g=>hS.set g
     have v0:v - 1<b.size:=by omega
     refine wpS_if (fun _=>?_) fun _=>?_
     all_goals
      refine wpS_bind (wpS_modify ?_)
      refine wpS_bind (el (xs:=b) (i:=v - 1) v0 (wpS_bind (gal_ok L (left:=false) (arr:=a) (base:=0) (n:=u) (hint:=u - 1) (c:=ky κ b[v - 1]) ((hS2 _).kind hk) (has_key hb v0) ha (by omega) (by omega) (seg_of sa (by omega)) fun k k1 k2 k3=>?_)))
      have mA:=m.ga k1 fun n q1 q2 q3 w w1 w2=>KeyOrd.kle_trans (up sb (by omega) v0) (hR' q3 k3 q1 q2)
      have f1:∀ n,n<k→(hn:n<a.size)→kl κ a[n] b[v - 1]:=fun n q1 q2=>hR q2 k2 q1
      by_cases kz:u - k > 0
      ·refine wpS_yes kz ?_
       by_cases g1:k=0
       ·exact wpS_yes (by simpa using g1) (wpS_pure ⟨hS2 _,.inr ⟨_,_,rfl,mA.dn (.inl g1)⟩⟩)
       refine wpS_nay (by simpa using g1) ?_
       have v0:v - 1<b.size:=by omega
       refine wpS_bind (el (xs:=b) (i:=v - 1) v0 ?_)
       have mB:=Jh.pb mA (by omega) (by omega) f1
       by_cases g3:v - 1=1
       ·exact wpS_yes (by simpa using g3) (wpS_pure ⟨hS2 _,.inr ⟨_,_,rfl,mB.fb g3 b1 hf'⟩⟩)
       refine wpS_nay (by simpa using g3) ?_
       have v1:1<v - 1:=by omega
       have w0:k - 1<a.size:=by omega
       refine wpS_bind (el (xs:=a) (i:=k - 1) w0 (wpS_bind (gal_ok L (left:=true) (arr:=b) (base:=0) (n:=v - 1) (hint:=v - 1 - 1) (c:=ky κ a[k - 1]) ((hS2 _).kind hk) (has_key ha w0) hb (by omega) (by omega) (seg_of sb (by omega)) fun l l1 l2 l3=>?_)))
       have mC:=mB.gb l1 fun n q1 q2 q3 w w1 w2=>KeyOrd.kle_trans (up sa (by omega) w0) (hL' q3 l3 q1 q2)
       have f2:∀ n,n<l→(hn:n<b.size)→kl κ b[n] a[k - 1]:=fun n q1 q2=>hL q2 l2 q1
       by_cases lz:v - 1 - l > 0
       ·refine wpS_yes lz ?_
        by_cases g4:l=1
        ·exact wpS_yes (by simpa using g4) (wpS_pure ⟨hS2 _,.inr ⟨_,_,rfl,mC.fb g4 b1 hf'⟩⟩)
        refine wpS_nay (by simpa using g4) ?_
        by_cases g6:l=0
        ·exact wpS_yes (by simpa using g6) (wpS_pure ⟨hS2 _,.inr ⟨_,_,rfl,mC.dn (.inr g6)⟩⟩)
        refine wpS_nay (by simpa using g6) ?_
        refine wpS_bind (el (xs:=a) (i:=k - 1) w0 ?_)
        have mD:=mC.pa (by omega) (by omega) f2
        by_cases g5:k - 1=0
        ·exact wpS_yes (by simpa using g5) (wpS_pure ⟨hS2 _,.inr ⟨_,_,rfl,mD.dn (.inl g5)⟩⟩)
        have n1:0<k - 1:=by omega
        have n2:1<l:=by omega
        have n3:k - 1+l≤i'+j':=by omega
        have n4:k - 1≤a.size:=by omega
        have n5:l≤b.size:=by omega
        exact wpS_nay (by simpa using g5) (wpS_if (fun _=>wpS_pure ⟨hS2 _,.inl ⟨_,_,_,_,_,_,rfl,mD,n1,n2,n4,n5,n3⟩⟩) fun _=>wpS_pure ⟨hS2 _,_,_,_,_,_,_,rfl,mD,n1,n2,n4,n5,n3⟩)
       ·have lq:l=v - 1:=by omega
        subst lq
        refine wpS_nay lz ?_
        refine wpS_bind (el (xs:=a) (i:=k - 1) w0 ?_)
        have mD:=mB.pa (by omega) (by omega) f2
        by_cases g5:k - 1=0
        ·exact wpS_yes (by simpa using g5) (wpS_pure ⟨hS2 _,.inr ⟨_,_,rfl,mD.dn (.inl g5)⟩⟩)
        have n1:0<k - 1:=by omega
        have n3:k - 1+(v - 1)≤i'+j':=by omega
        have n4:k - 1≤a.size:=by omega
        have n5:v - 1≤b.size:=by omega
        exact wpS_nay (by simpa using g5) (wpS_if (fun _=>wpS_pure ⟨hS2 _,.inl ⟨_,_,_,_,_,_,rfl,mD,n1,v1,n4,n5,n3⟩⟩) fun _=>wpS_pure ⟨hS2 _,_,_,_,_,_,_,rfl,mD,n1,v1,n4,n5,n3⟩)
      ·have kq:k=u:=by omega
       subst kq
       refine wpS_nay kz ?_
       have v0:v - 1<b.size:=by omega
       refine wpS_bind (el (xs:=b) (i:=v - 1) v0 ?_)
       have mB:=Jh.pb m (by omega) (by omega) f1
       by_cases g3:v - 1=1
       ·exact wpS_yes (by simpa using g3) (wpS_pure ⟨hS2 _,.inr ⟨_,_,rfl,mB.fb g3 b1 hf'⟩⟩)
       refine wpS_nay (by simpa using g3) ?_
       have v1:1<v - 1:=by omega
       have w0:k - 1<a.size:=by omega
       refine wpS_bind (el (xs:=a) (i:=k - 1) w0 (wpS_bind (gal_ok L (left:=true) (arr:=b) (base:=0) (n:=v - 1) (hint:=v - 1 - 1) (c:=ky κ a[k - 1]) ((hS2 _).kind hk) (has_key ha w0) hb (by omega) (by omega) (seg_of sb (by omega)) fun l l1 l2 l3=>?_)))
       have mC:=mB.gb l1 fun n q1 q2 q3 w w1 w2=>KeyOrd.kle_trans (up sa (by omega) w0) (hL' q3 l3 q1 q2)
       have f2:∀ n,n<l→(hn:n<b.size)→kl κ b[n] a[k - 1]:=fun n q1 q2=>hL q2 l2 q1
       by_cases lz:v - 1 - l > 0
       ·refine wpS_yes lz ?_
        by_cases g4:l=1
        ·exact wpS_yes (by simpa using g4) (wpS_pure ⟨hS2 _,.inr ⟨_,_,rfl,mC.fb g4 b1 hf'⟩⟩)
        refine wpS_nay (by simpa using g4) ?_
        by_cases g6:l=0
        ·exact wpS_yes (by simpa using g6) (wpS_pure ⟨hS2 _,.inr ⟨_,_,rfl,mC.dn (.inr g6)⟩⟩)
        refine wpS_nay (by simpa using g6) ?_
        refine wpS_bind (el (xs:=a) (i:=k - 1) w0 ?_)
        have mD:=mC.pa (by omega) (by omega) f2
        by_cases g5:k - 1=0
        ·exact wpS_yes (by simpa using g5) (wpS_pure ⟨hS2 _,.inr ⟨_,_,rfl,mD.dn (.inl g5)⟩⟩)
        have n1:0<k - 1:=by omega
        have n2:1<l:=by omega
        have n3:k - 1+l≤i'+j':=by omega
        have n4:k - 1≤a.size:=by omega
        have n5:l≤b.size:=by omega
        exact wpS_nay (by simpa using g5) (wpS_if (fun _=>wpS_pure ⟨hS2 _,.inl ⟨_,_,_,_,_,_,rfl,mD,n1,n2,n4,n5,n3⟩⟩) fun _=>wpS_pure ⟨hS2 _,_,_,_,_,_,_,rfl,mD,n1,n2,n4,n5,n3⟩)
       ·have lq:l=v - 1:=by omega
        subst lq
        refine wpS_nay lz ?_
        refine wpS_bind (el (xs:=a) (i:=k - 1) w0 ?_)
        have mD:=mB.pa (by omega) (by omega) f2
        by_cases g5:k - 1=0
        ·exact wpS_yes (by simpa using g5) (wpS_pure ⟨hS2 _,.inr ⟨_,_,rfl,mD.dn (.inl g5)⟩⟩)
        have n1:0<k - 1:=by omega
        have n3:k - 1+(v - 1)≤i'+j':=by omega
        have n4:k - 1≤a.size:=by omega
        have n5:v - 1≤b.size:=by omega
        exact wpS_nay (by simpa using g5) (wpS_if (fun _=>wpS_pure ⟨hS2 _,.inl ⟨_,_,_,_,_,_,rfl,mD,n1,v1,n4,n5,n3⟩⟩) fun _=>wpS_pure ⟨hS2 _,_,_,_,_,_,_,rfl,mD,n1,v1,n4,n5,n3⟩)
    ·rintro c st2 ⟨hS,h⟩
     exact⟨hS,.inl h⟩
    ·rintro c st2 ⟨hS,⟨u,v,out,g,ac,bc,rfl,m,h1,h2,p1,p2,h5⟩|⟨r,rest,rfl,hr⟩⟩
     ·have n1:x+1+(u+v)≤a.size+b.size:=by omega
      exact wpS_bind (wpS_modify (wpS_pure ⟨hS.set _,_,_,_,_,rfl,m,h1,h2,p1,p2,n1⟩))
     ·exact wpS_pure ⟨hS,r,_,rfl,hr⟩
   ·exact wpS_pure ⟨hS,r,_,rfl,hr⟩
 ·rintro c st' ⟨hS,i,j,out,g,rfl,m,h1,h2,p1,p2,h3⟩
  omega
 ·rintro c st' ⟨hS,r,rest,rfl,hr⟩
  exact wpS_pure (h r st' hS hr)
end
end TS
end
section
open PySem PyProof.Rows
namespace TS
section
variable {α:Type}
noncomputable def wb(xs:Array α)(p:Nat)(l:List (α×Nat)):Array α:=l.foldl (fun a x=>a.setIfInBounds (p+x.2) x.1) xs
theorem wb_at(p:Nat):∀ (l:List α) (k:Nat) (xs:Array α) (i:Nat),p+k+l.length≤xs.size→(wb xs p (l.zipIdx k))[i]?=if p+k≤i∧i<p+k+l.length then l[i - (p+k)]? else xs[i]?
 |[],k,xs,i,h=>by
  rw[if_neg (by simp)]; rfl
 |x::l,k,xs,i,h=>by
  rw[List.length_cons]at h
  show(wb (xs.setIfInBounds (p+k) x) p (l.zipIdx (k+1)))[i]?=_
  rw[wb_at p l (k+1) _ i (by rw[Array.size_setIfInBounds]; omega),List.length_cons]
  by_cases h1:i=p+k
  ·subst h1
   rw[if_neg (by omega),if_pos (by omega),Nat.sub_self,List.getElem?_cons_zero,Array.getElem?_setIfInBounds,if_pos rfl,if_pos (by omega)]
  ·by_cases h2:p+k≤i∧i<p+k+(l.length+1)
   ·rw[if_pos h2,if_pos (by omega)]
    obtain⟨j,rfl⟩:∃ j,i=p+k+(j+1):=⟨i - (p+k) - 1,by omega⟩
    rw[show p+k+(j+1) - (p+(k+1))=j by omega,Nat.add_sub_cancel_left,List.getElem?_cons_succ]
   ·rw[if_neg h2,if_neg (by omega),Array.getElem?_setIfInBounds,if_neg (by omega)]
theorem wb_get{xs:Array α}{p:Nat}{l:List α}(h:p+l.length≤xs.size)(i:Nat):(wb xs p l.zipIdx)[i]?=if p≤i∧i<p+l.length then l[i - p]? else xs[i]?:=wb_at p l 0 xs i h
theorem wb_list{xs:Array α}{p:Nat}{l:List α}(h:p+l.length≤xs.size):(wb xs p l.zipIdx).toList=xs.toList.take p++(l++xs.toList.drop (p+l.length)):=by
 apply List.ext_getElem?
 intro i
 rw[Array.getElem?_toList,wb_get h]
 have e:(xs.toList.take p).length=p:=by rw[List.length_take,Array.length_toList]; omega
 by_cases h1:i<p
 ·rw[if_neg (by omega),List.getElem?_append_left (by omega),List.getElem?_take,if_pos h1,Array.getElem?_toList]
 ·rw[List.getElem?_append_right (by omega),e]
  by_cases h2:i<p+l.length
  ·rw[if_pos (by omega),List.getElem?_append_left (by omega)]
  ·rw[if_neg (by omega),List.getElem?_append_right (by omega),List.getElem?_drop,show p+l.length+(i - p - l.length)=i by omega,Array.getElem?_toList]
theorem wb_perm{xs:Array α}{p:Nat}{l:List α}(h:p+l.length≤xs.size)(hp:l.Perm (xs.extract p (p+l.length)).toList):(wb xs p l.zipIdx).Perm xs:=by
 rw[Array.perm_iff_toList_perm,wb_list h]
 have e:xs.toList=xs.toList.take p++((xs.extract p (p+l.length)).toList++xs.toList.drop (p+l.length)):=by
  have e2:(xs.extract p (p+l.length)).toList=(xs.toList.drop p).take l.length:=by
   rw[Array.toList_extract,List.extract_eq_take_drop,Nat.add_sub_cancel_left]
  rw[e2,← List.drop_drop,List.take_append_drop,List.take_append_drop]
 conv=>rhs; rw[e]
 exact(List.Perm.refl _).append (hp.append (List.Perm.refl _))
end
section
variable {M:Model}{A:Around}{E:Value→Shared→Prop}{s:Shared}{κ:KeyKind}{k0:SortKind}
theorem wpS_set{σ:Type}{t st:σ}{Q:PUnit→σ→Prop}(h:Q ⟨⟩ t):wpS M A E s (set t:StateT σ Sem PUnit) Q st:=by
 unfold wpS
 rw[StateT.run_set]
 exact wpAny_pure ⟨rfl,h⟩
theorem _root_.PyProof.Rows.KeysOf.ext{xs:Array Keyed}(h:KeysOf κ xs)(i j:Nat):KeysOf κ (xs.extract i j):=fun p hp=>by
 obtain⟨n,hn,_,_,rfl⟩:=mem_ext hp
 exact h _ (by simp)
theorem pw_ext{xs:Array Keyed}{i j:Nat}(h:Seg κ xs i j)(hj:j≤xs.size):(xs.extract i j).toList.Pairwise (kl κ):=by
 rw[List.pairwise_iff_getElem]
 intro u v hu hv huv
 have hv':v<(xs.extract i j).size:=by rw[← Array.length_toList]; exact hv
 rw[Array.size_extract]at hv'
 have:=h (i+u) (i+v) (by omega) (by omega) (by omega)
 rw[KK_at (by omega),KK_at (by omega)]at this
 simp only[Array.getElem_toList,Array.getElem_extract]
 exact this
theorem ext_app(xs:Array Keyed){i j k:Nat}(h1:i≤j)(h2:j≤k):(xs.extract i j).toList++(xs.extract j k).toList=(xs.extract i k).toList:=by
 rw[← Array.toList_append,Array.extract_append_extract]
 congr 2<;>omega
theorem Seg.sub{xs:Array Keyed}{i j u v:Nat}(h:Seg κ xs i j)(h1:i≤u)(h2:v≤j):Seg κ xs u v:=fun a b p q r=>h a b (by omega) q (by omega)
theorem seg_wb{xs r:Array Keyed}{SA sb u v e:Nat}(hz:e≤xs.size)(h1:SA≤u)(h2:u≤sb)(h3:sb≤v)(h4:v≤e)(sA:Seg κ xs SA sb)(sB:Seg κ xs sb e)(hr:Fn κ (xs.extract u sb) (xs.extract sb v) r)
  (lo:∀ n,SA≤n→n<u→∀ m,sb≤m→m<e→κ.kle (KK κ xs n) (KK κ xs m)) (hi:∀ n,u≤n→n<sb→∀ m,v≤m→m<e→κ.kle (KK κ xs n) (KK κ xs m)) :
  (wb xs u r.toList.zipIdx).Perm xs∧Seg κ (wb xs u r.toList.zipIdx) SA e∧∀ j,(j<SA∨e≤j)→(wb xs u r.toList.zipIdx)[j]?=xs[j]?:=by
 obtain⟨rp,rs⟩:=hr
 rw[ext_app xs h2 h3]at rp
 have len:r.toList.length=v - u:=by
  rw[rp.length_eq,Array.length_toList,Array.size_extract]; omega
 have hl:u+r.toList.length≤xs.size:=by omega
 have ev:u+r.toList.length=v:=by omega
 refine⟨wb_perm hl (by rw[ev]; exact rp),?_,fun j hj=>by rw[wb_get hl,if_neg (by omega)]⟩
 have out:∀ j,¬ (u≤j∧j<v)→KK κ (wb xs u r.toList.zipIdx) j=KK κ xs j:=fun j hj=>KK_congr (by rw[wb_get hl,if_neg (by omega)])
 have ins:∀ j,(hu:u≤j)→(hj:j<v)→KK κ (wb xs u r.toList.zipIdx) j=ky κ (r.toList[j - u]'(by omega)):=fun j h5 h6=>by
  have e:=wb_get hl j
  rw[if_pos (by omega),List.getElem?_eq_getElem (by omega)]at e
  unfold KK ky
  rw[e]
 have frm:∀ j,u≤j→j<v→∃ n,u≤n∧n<v∧KK κ (wb xs u r.toList.zipIdx) j=KK κ xs n:=fun j h5 h6=>by
  have q:r.toList[j - u]'(by omega)∈(xs.extract u v).toList:=rp.mem_iff.mp (List.getElem_mem _)
  obtain⟨n,hn,g1,g2,g3⟩:=mem_ext q
  exact⟨n,g1,g2,by rw[ins j h5 h6,g3,KK_at hn]⟩
 intro i j hi1 hij hj
 by_cases ci:u≤i∧i<v
 ·by_cases cj:u≤j∧j<v
  ·rw[ins i ci.1 ci.2,ins j cj.1 cj.2]
   by_cases e:i=j
   ·subst e; exact KeyOrd.kle_refl _
   ·exact List.pairwise_iff_getElem.mp rs (i - u) (j - u) (by omega) (by omega) (by omega)
  ·obtain⟨n,g1,g2,g3⟩:=frm i ci.1 ci.2
   rw[g3,out j cj]
   by_cases c:n<sb
   ·exact hi n g1 c j (by omega) hj
   ·exact sB n j (by omega) (by omega) hj
 ·by_cases cj:u≤j∧j<v
  ·obtain⟨n,g1,g2,g3⟩:=frm j cj.1 cj.2
   rw[g3,out i ci]
   by_cases c:n<sb
   ·exact sA i n hi1 (by omega) c
   ·exact lo i hi1 (by omega) n (by omega) (by omega)
  ·rw[out i ci,out j cj]
   by_cases c:j<sb
   ·exact sA i j hi1 hij c
   ·by_cases c':i<sb
    ·exact lo i hi1 (by omega) j (by omega) hj
    ·exact sB i j (by omega) hij hj
theorem wpS_gen{σ α:Type}{P:σ→Prop}{t:σ}{m:StateT σ Sem α}{Q:α→σ→Prop}(hP:P t)(h:∀ t,P t→wpS M A E s m Q t):wpS M A E s m Q t:=h t hP
theorem mat_ok(L:LtR M A E s κ k0){i SA NA NB pw pw':Nat}{st:SortSt}{Q:Bool→SortSt→Prop}(hk:kindOf st=k0)(p1:(pendingOf st)[i]?=some (SA,NA,pw))(p2:(pendingOf st)[i+1]?=some (SA+NA,NB,pw'))
  (n1:0<NA) (n2:0<NB) (hz:SA+NA+NB≤(arrOf st).size) (ho:KeysOf κ (arrOf st)) (sA:Seg κ (arrOf st) SA (SA+NA)) (sB:Seg κ (arrOf st) (SA+NA) (SA+NA+NB)) (hf:failedOf st=none)
  (h:∀ st',kindOf st'=k0→failedOf st'=none→(arrOf st').Perm (arrOf st)→Seg κ (arrOf st') SA (SA+NA+NB)→(∀ j,(j<SA∨SA+NA+NB≤j)→(arrOf st')[j]?=(arrOf st)[j]?)→
   pendingOf st'=((pendingOf st).setIfInBounds i (SA,NA+NB,pw)).eraseIdxIfInBounds (i+1)→Q true st'):wpS M A E s (mergeAt' i) Q st:=by
 unfold mergeAt'
 refine wpS_bind (wpS_get ?_)
 dsimp only
 rw[p1,p2]
 refine wpS_bind (wpS_set (wpS_gen (P:=fun t=>kindOf t=k0∧failedOf t=none∧arrOf t=arrOf st∧pendingOf t=((pendingOf st).setIfInBounds i (SA,NA+NB,pw)).eraseIdxIfInBounds (i+1)) ⟨hk,hf,rfl,rfl⟩ fun st1 ⟨q1,q2,q3,q4⟩=>?_))
 have b0:SA+NA<(arrOf st).size:=by omega
 refine wpS_bind (el (xs:=arrOf st) (i:=SA+NA) b0 (wpS_bind (gal_ok L (left:=false) (arr:=arrOf st) (base:=SA) (n:=NA) (hint:=0) (c:=ky κ (arrOf st)[SA+NA]) q1 (has_key ho b0) ho (by omega) n1 sA fun k k1 k2 k3=>?_)))
 have lo:∀ n,SA≤n→n<SA+k→∀ m,SA+NA≤m→m<SA+NA+NB→κ.kle (KK κ (arrOf st) n) (KK κ (arrOf st) m):=fun n g1 g2 m g3 g4=>by
  have z:=gR g1 (by omega) k2 g2
  rw[← KK_at,← KK_at]at z
  exact KeyOrd.kle_trans z (sB _ _ (Nat.le_refl _) g3 g4)
 by_cases e1:NA - k=0
 ·refine wpS_yes (by simpa using e1) (wpS_pure (h st1 q1 q2 (by rw[q3]) ?_ (fun j _=>by rw[q3]) q4))
  rw[q3]
  intro u v u1 u2 u3
  by_cases c:v<SA+NA
  ·exact sA u v u1 u2 c
  ·by_cases c':u<SA+NA
   ·exact lo u u1 (by omega) v (by omega) u3
   ·exact sB u v (by omega) u2 u3
 refine wpS_nay (by simpa using e1) ?_
 have w0:SA+k+(NA - k) - 1<(arrOf st).size:=by omega
 refine wpS_bind (el (xs:=arrOf st) (i:=SA+k+(NA - k) - 1) w0 (wpS_bind (gal_ok L (left:=true) (arr:=arrOf st) (base:=SA+NA) (n:=NB) (hint:=NB - 1) (c:=ky κ (arrOf st)[SA+k+(NA - k) - 1]) q1 (has_key ho w0) ho (by omega) (by omega) sB fun l l1 l2 l3=>?_)))
 have hi:∀ n,SA+k≤n→n<SA+NA→∀ m,SA+NA+l≤m→m<SA+NA+NB→κ.kle (KK κ (arrOf st) n) (KK κ (arrOf st) m):=fun n g1 g2 m g3 g4=>by
  obtain⟨j,rfl⟩:∃ j,m=SA+NA+j:=⟨m - (SA+NA),by omega⟩
  have z:=(ahdL (κ:=κ) (xs:=arrOf st) (b:=SA+NA) (i:=j) (by omega)).2 (l3 j (by omega) (by omega))
  rw[← KK_at,← KK_at]at z
  exact KeyOrd.kle_trans (sA _ _ (by omega) (by omega) (by omega)) z
 by_cases e2:l=0
 ·refine wpS_yes (by simpa using e2) (wpS_pure (h st1 q1 q2 (by rw[q3]) ?_ (fun j _=>by rw[q3]) q4))
  rw[q3]
  intro u v u1 u2 u3
  by_cases c:v<SA+NA
  ·exact sA u v u1 u2 c
  ·by_cases c':u<SA+NA
   ·by_cases c2:u<SA+k
    ·exact lo u u1 c2 v (by omega) u3
    ·exact hi u (by omega) c' v (by omega) u3
   ·exact sB u v (by omega) u2 u3
 refine wpS_nay (by simpa using e2) ?_
 have fin:∀ r st2,Sm st1 st2→Fn κ ((arrOf st).extract (SA+k) (SA+NA)) ((arrOf st).extract (SA+NA) (SA+NA+l)) r→Q true (SortSt.mk' (kindOf st2) (wb (arrOf st2) (SA+k) r.toList.zipIdx) (pendingOf st2) (gallopOf st2) (failedOf st2))∧failedOf st2=none:=by
  rintro r _ ⟨g,rfl⟩ hr
  have W:=seg_wb (SA:=SA) (e:=SA+NA+NB) hz (by omega) (by omega) (by omega) (by omega) sA sB hr lo hi
  have e:wb (arrOf st1) (SA+k) r.toList.zipIdx=wb (arrOf st) (SA+k) r.toList.zipIdx:=by rw[q3]
  rw[← e]at W
  exact⟨h _ q1 q2 W.1 W.2.1 W.2.2 q4,q2⟩
 have a1:0<((arrOf st).extract (SA+k) (SA+NA)).size:=by rw[Array.size_extract]; omega
 have b1:0<((arrOf st).extract (SA+NA) (SA+NA+l)).size:=by rw[Array.size_extract]; omega
 have sx:=pw_ext (sA.sub (u:=SA+k) (v:=SA+NA) (by omega) (Nat.le_refl _)) (by omega)
 have sy:=pw_ext (sB.sub (u:=SA+NA) (v:=SA+NA+l) (Nat.le_refl _) (by omega)) (by omega)
 have f0:κ.klt (ky κ ((arrOf st).extract (SA+NA) (SA+NA+l))[0]) (ky κ ((arrOf st).extract (SA+k) (SA+NA))[0]):=by
  simp only[Array.getElem_extract,Nat.add_zero]
  exact(ahdR (κ:=κ) (xs:=arrOf st) (b:=SA) (i:=k) (by omega)).2 (k3 k (Nat.le_refl _) (by omega))
 have fl:∀ y∈((arrOf st).extract (SA+NA) (SA+NA+l)).toList,kl κ y ((arrOf st).extract (SA+k) (SA+NA))[((arrOf st).extract (SA+k) (SA+NA)).size - 1]:=fun y hy=>by
  obtain⟨n,hn,g1,g2,rfl⟩:=mem_ext hy
  have z:=gL g1 hn l2 g2
  have e:((arrOf st).extract (SA+k) (SA+NA))[((arrOf st).extract (SA+k) (SA+NA)).size - 1]=(arrOf st)[SA+k+(NA - k) - 1]:=by
   rw[Array.getElem_extract]
   congr 1
   rw[Array.size_extract]
   omega
  unfold kl
  rw[e]
  exact z
 refine wpS_if (fun _=>?_) fun _=>?_
 ·refine wpS_bind (mlo_ok L q1 (ho.ext _ _) (ho.ext _ _) sx sy a1 b1 f0 fl fun r st2 S2 hr=>?_)
  have F:=fin r st2 S2 hr
  refine wpS_bind (wpS_modify (wpS_bind (wpS_get (wpS_pure ?_))))
  show Q (failedOf st2).isNone _
  rw[F.2]
  exact F.1
 ·refine wpS_bind (mhi_ok L q1 (ho.ext _ _) (ho.ext _ _) sx sy a1 b1 f0 fl fun r st2 S2 hr=>?_)
  have F:=fin r st2 S2 hr
  refine wpS_bind (wpS_modify (wpS_bind (wpS_get (wpS_pure ?_))))
  show Q (failedOf st2).isNone _
  rw[F.2]
  exact F.1
end
end TS
end
section
open PySem PyProof.Rows
namespace TS
section
variable {M:Model}{A:Around}{E:Value→Shared→Prop}{s:Shared}{κ:KeyKind}{k0:SortKind}
structure Rl (lo:Nat) (s t:SortSt):Prop where
 kind:kindOf t=kindOf s
 pend:pendingOf t=pendingOf s
 fail:failedOf t=failedOf s
 perm:(arrOf t).Perm (arrOf s)
 same:∀ j,j<lo→(arrOf t)[j]?=(arrOf s)[j]?
theorem Rl.refl(lo:Nat)(st:SortSt):Rl lo st st:=⟨rfl,rfl,rfl,Array.Perm.refl _,fun _ _=>rfl⟩
theorem Rl.size{lo:Nat}{s t:SortSt}(h:Rl lo s t):(arrOf t).size=(arrOf s).size:=h.perm.size_eq
theorem Rl.keys{lo:Nat}{s t:SortSt}(h:Rl lo s t)(k:KeysOf κ (arrOf s)):KeysOf κ (arrOf t):=fun p hp=>k p ((Array.perm_iff_toList_perm.mp h.perm).mem_iff.mp hp)
theorem Rl.rev{lo i j:Nat}{s t:SortSt}(h:Rl lo s t)(h1:lo≤i)(h2:j≤(arrOf t).size):Rl lo s (setArr t (mirror (arrOf t) i j ((j - i) / 2))):=
 ⟨h.kind,h.pend,h.fail,(mirror_perm _ _ _ _).trans h.perm,fun k hk=>(by
  show(mirror (arrOf t) i j ((j - i) / 2))[k]?=_
  rw[getElem?_mirror_all h2,if_neg (by omega)]; exact h.same k hk)⟩
theorem Rl.bub{lo k d:Nat}{s t:SortSt}(h:Rl lo s t)(h1:lo≤k - d)(h3:d≤k)(h2:k<(arrOf t).size):Rl lo s (setArr t (bubble (arrOf t) k d)):=
 ⟨h.kind,h.pend,h.fail,(bubble_perm _ _ _).trans h.perm,fun j hj=>(by
  show(bubble (arrOf t) k d)[j]?=_
  rw[getElem?_bubble h2 d h3,if_neg (by omega),if_neg (by omega)]; exact h.same j hj)⟩
theorem lt_at(L:LtR M A E s κ k0){st:SortSt}{i j:Nat}{Q:Option Bool→SortSt→Prop}(hk:kindOf st=k0)(ho:KeysOf κ (arrOf st))(hi:i<(arrOf st).size)(hj:j<(arrOf st).size)
  (h:Q (some (κ.blt (KK κ (arrOf st) i) (KK κ (arrOf st) j))) st):wpS M A E s (ltAt' i j) Q st:=by
 rw[KK_at hi,KK_at hj]at h
 unfold ltAt'
 exact wpS_bind (wpS_get (wpS_bind (el hi (wpS_bind (el hj (L _ _ _ _ (has_key ho hi) (has_key ho hj) _ _ hk h))))))
def Dsg(κ:KeyKind)(xs:Array Keyed)(lo hi:Nat):Prop:=∀ i j,lo≤i→i≤j→j<hi→κ.kle (KK κ xs j) (KK κ xs i)
theorem Seg.one(xs:Array Keyed)(lo:Nat):Seg κ xs lo (lo+1):=fun i j h1 h2 h3=>by
 have:i=j:=by omega
 subst this
 exact KeyOrd.kle_refl _
theorem Seg.more{xs:Array Keyed}{lo n:Nat}(h:Seg κ xs lo (lo+n))(h0:0<n)(q:κ.kle (KK κ xs (lo+n - 1)) (KK κ xs (lo+n))):Seg κ xs lo (lo+(n+1)):=fun i j h1 h2 h3=>by
 by_cases c:j<lo+n
 ·exact h i j h1 h2 c
 ·have e:j=lo+n:=by omega
  subst e
  by_cases c':i=lo+n
  ·subst c'; exact KeyOrd.kle_refl _
  ·exact KeyOrd.kle_trans (h i (lo+n - 1) h1 (by omega) (by omega)) q
theorem Dsg.more{xs:Array Keyed}{lo n:Nat}(h:Dsg κ xs lo (lo+n))(h0:0<n)(q:κ.kle (KK κ xs (lo+n)) (KK κ xs (lo+n - 1))):Dsg κ xs lo (lo+(n+1)):=fun i j h1 h2 h3=>by
 by_cases c:j<lo+n
 ·exact h i j h1 h2 c
 ·have e:j=lo+n:=by omega
  subst e
  by_cases c':i=lo+n
  ·subst c'; exact KeyOrd.kle_refl _
  ·exact KeyOrd.kle_trans q (h i (lo+n - 1) h1 (by omega) (by omega))
theorem Dsg.flip{xs:Array Keyed}{lo n:Nat}(h:Dsg κ xs lo (lo+n))(hz:lo+n≤xs.size):Seg κ (mirror xs lo (lo+n) ((lo+n - lo) / 2)) lo (lo+n):=fun i j h1 h2 h3=>by
 rw[KK_mirror hz,KK_mirror hz,if_pos (by omega),if_pos (by omega)]
 exact h _ _ (by omega) (by omega) (by omega)
theorem Dsg.like{xs ys:Array Keyed}{lo hi:Nat}(h:Dsg κ xs lo hi)(e:∀ k,KK κ ys k=KK κ xs k):Dsg κ ys lo hi:=fun i j h1 h2 h3=>by
 rw[e,e]; exact h i j h1 h2 h3
theorem cnt_ok(L:LtR M A E s κ k0){st:SortSt}{lo nrem:Nat}{Q:Option Nat→SortSt→Prop}(hk:kindOf st=k0)(ho:KeysOf κ (arrOf st))(hz:lo+nrem≤(arrOf st).size)(h1:1≤nrem)
  (h:∀ m st',Rl lo st st'→1≤m→m≤nrem→Seg κ (arrOf st') lo (lo+m)→Q (some m) st'):wpS M A E s (countRun' lo nrem) Q st:=by
 unfold countRun'
 refine wpS_bind (wpS_mono (wpS_forRange (I:=fun x c st'=>st'=st∧c=(none,x)∧Seg κ (arrOf st) lo (lo+x))
  (Q:=fun c st'=>st'=st∧∃ n,c=(none,n)∧1≤n∧n≤nrem∧Seg κ (arrOf st) lo (lo+n)∧(n=nrem∨κ.blt (KK κ (arrOf st) (lo+n)) (KK κ (arrOf st) (lo+n - 1))=true)) ?_ ?_ ⟨rfl,rfl,Seg.one _ _⟩) ?_)
 ·rintro x c st' hx1 hx2 ⟨rfl,rfl,sg⟩
  refine wpS_bind (lt_at L (i:=lo+x) (j:=lo+x - 1) hk ho (by omega) (by omega) ?_)
  cases e:κ.blt (KK κ (arrOf st') (lo+x)) (KK κ (arrOf st') (lo+x - 1))
  ·exact wpS_pure ⟨rfl,rfl,sg.more hx1 e⟩
  ·exact wpS_pure ⟨rfl,x,rfl,hx1,Nat.le_of_lt hx2,sg,.inr e⟩
 ·rintro c st' ⟨rfl,rfl,sg⟩
  have e:max 1 nrem=nrem:=by omega
  rw[e]at sg ⊢
  exact⟨rfl,nrem,rfl,h1,Nat.le_refl _,sg,.inl rfl⟩
 ·rintro c st' ⟨rfl,n,rfl,n1,n2,sg,hor⟩
  by_cases e1:n=nrem
  ·exact wpS_yes (by simpa using e1) (wpS_pure (h n _ (Rl.refl _ _) n1 n2 sg))
  refine wpS_nay (by simpa using e1) ?_
  have lt:=hor.resolve_left e1
  have hn:n+1≤nrem:=by omega
  refine wpS_if (fun c=>?_) fun c=>?_
  ·refine wpS_bind (lt_at L (i:=lo) (j:=lo+n - 1) hk ho (by omega) (by omega) ?_)
   cases e:κ.blt (KK κ (arrOf st') lo) (KK κ (arrOf st') (lo+n - 1))
   case true=>exact wpS_pure (h n _ (Rl.refl _ _) n1 n2 sg)
   have hz':lo+n≤(arrOf st').size:=by omega
   have all:∀ k,lo≤k→k<lo+n→KK κ (arrOf st') k=KK κ (arrOf st') (lo+n - 1):=fun k k1 k2=>
    KeyOrd.kle_antisymm (sg k (lo+n - 1) k1 (by omega) (by omega)) (KeyOrd.kle_trans (show κ.kle _ _ from e) (sg lo k (Nat.le_refl _) k1 k2))
   refine wpS_bind (wpS_modify ?_)
   have R1:=(Rl.refl lo st').rev (i:=lo) (j:=lo+n) (Nat.le_refl _) hz'
   have D0:Dsg κ (arrOf st') lo (lo+n):=fun i j i1 i2 i3=>by
    rw[all i i1 (by omega),all j (by omega) i3]; exact KeyOrd.kle_refl _
   have D1:=(D0.more (by omega) (lt_le lt)).like (KK_mirror_equal hz' all)
   refine wpS_gen (P:=fun t=>Rl lo st' t∧Dsg κ (arrOf t) lo (lo+(n+1))) ⟨R1,D1⟩ fun st1 ⟨R1,D1⟩=>?_
   refine wpS_bind (wpS_lift (wpAny_rule ⟨rfl,?_⟩))
   have eqs:∀ (t:SortSt) (x k:Nat),lo+x - (0+1)≤k→k<lo+x→KK κ (arrOf t) k=KK κ (arrOf t) (lo+x - 1):=fun t x k k1 k2=>by
    have:k=lo+x - 1:=by omega
    rw[this]
   refine wpS_bind (wpS_mono (wpS_forRange (a:=n+1) (b:=nrem) (I:=fun x c t=>∃ neq,c=(none,x,neq)∧Rl lo st' t∧Dsg κ (arrOf t) lo (lo+x)∧neq+1≤x∧∀ k,lo+x - (neq+1)≤k→k<lo+x→KK κ (arrOf t) k=KK κ (arrOf t) (lo+x - 1))
    (Q:=fun c t=>∃ x neq,c=(none,x,neq)∧n+1≤x∧x≤nrem∧Rl lo st' t∧Dsg κ (arrOf t) lo (lo+x)∧neq+1≤x∧∀ k,lo+x - (neq+1)≤k→k<lo+x→KK κ (arrOf t) k=KK κ (arrOf t) (lo+x - 1)) ?_ ?_ ⟨0,rfl,R1,D1,by omega,eqs _ _⟩) ?_)
   ·rintro x c t x1 x2 ⟨neq,rfl,R,D,q1,q2⟩
    have kt:=R.kind.trans hk
    have kk:=R.keys ho
    have sz:=R.size
    have w1:lo+x<(arrOf t).size:=by omega
    refine wpS_bind (lt_at L (i:=lo+x) (j:=lo+x - 1) kt kk (by omega) (by omega) ?_)
    cases e:κ.blt (KK κ (arrOf t) (lo+x)) (KK κ (arrOf t) (lo+x - 1))
    ·refine wpS_bind (lt_at L (i:=lo+x - 1) (j:=lo+x) kt kk (by omega) (by omega) ?_)
     cases e':κ.blt (KK κ (arrOf t) (lo+x - 1)) (KK κ (arrOf t) (lo+x))
     ·have eq:KK κ (arrOf t) (lo+x)=KK κ (arrOf t) (lo+x - 1):=KeyOrd.kle_antisymm e' e
      have n5:neq+1+1≤x+1:=by omega
      refine wpS_pure ⟨neq+1,rfl,R,D.more (by omega) e',n5,fun k k1 k2=>?_⟩
      rw[show lo+(x+1) - 1=lo+x by omega]
      by_cases c:k=lo+x
      ·rw[c]
      ·rw[eq]; exact q2 k (by omega) (by omega)
     ·exact wpS_pure ⟨x,neq,rfl,x1,Nat.le_of_lt x2,R,D,q1,q2⟩
    ·have D':=D.more (by omega) (lt_le e)
     have n5:0+1≤x+1:=by omega
     have w2:lo+x≤(arrOf t).size:=by omega
     refine wpS_yes rfl (wpS_if (fun c=>?_) fun c=>?_)
     ·refine wpS_bind (wpS_modify ?_)
      refine wpS_pure (a:=ForInStep.yield (none,x+1,0)) ?_
      exact⟨0,rfl,R.rev (i:=lo+x - (neq+1)) (j:=lo+x) (by omega) w2,D'.like (KK_mirror_equal w2 q2),n5,eqs _ _⟩
     ·refine wpS_pure (a:=ForInStep.yield (none,x+1,0)) ?_
      exact⟨0,rfl,R,D',n5,eqs _ _⟩
   ·rintro c t ⟨neq,rfl,R,D,q1,q2⟩
    have e:max (n+1) nrem=nrem:=by omega
    rw[e]at D q1 q2
    rw[e]
    exact⟨nrem,neq,rfl,hn,Nat.le_refl _,R,D,q1,q2⟩
   ·rintro c t ⟨x,neq,rfl,x1,x2,R,D,q1,q2⟩
    have w2:lo+x≤(arrOf t).size:=by rw[R.size]; omega
    refine wpS_if (fun c=>wpS_bind (wpS_modify (wpS_gen (P:=fun t=>Rl lo st' t∧Dsg κ (arrOf t) lo (lo+x)) ⟨R.rev (i:=lo+x - (neq+1)) (j:=lo+x) (by omega) w2,D.like (KK_mirror_equal w2 q2)⟩ fun t ⟨R,D⟩=>?_))) fun c=>?_
    all_goals
     have w3:lo+x≤(arrOf t).size:=by rw[R.size]; omega
     refine wpS_bind (wpS_modify (wpS_gen (P:=fun t=>Rl lo st' t∧Seg κ (arrOf t) lo (lo+x)) ⟨R.rev (i:=lo) (j:=lo+x) (Nat.le_refl _) w3,D.flip w3⟩ fun t2 ⟨R2,S2⟩=>?_))
     have kt:=R2.kind.trans hk
     have kk:=R2.keys ho
     have sz:=R2.size
     refine wpS_bind (wpS_mono (wpS_forRange (a:=x) (b:=nrem) (I:=fun y c t=>t=t2∧c=(none,y)∧Seg κ (arrOf t2) lo (lo+y))
      (Q:=fun c t=>t=t2∧∃ y,c=(none,y)∧1≤y∧y≤nrem∧Seg κ (arrOf t2) lo (lo+y)) ?_ ?_ ⟨rfl,rfl,S2⟩) ?_)
     ·rintro y c t y1 y2 ⟨rfl,rfl,sg⟩
      refine wpS_bind (lt_at L (i:=lo+y) (j:=lo+y - 1) kt kk (by omega) (by omega) ?_)
      cases e:κ.blt (KK κ (arrOf t) (lo+y)) (KK κ (arrOf t) (lo+y - 1))
      ·exact wpS_pure ⟨rfl,rfl,sg.more (by omega) e⟩
      ·exact wpS_pure ⟨rfl,y,rfl,by omega,Nat.le_of_lt y2,sg⟩
     ·rintro c t ⟨rfl,rfl,sg⟩
      have e:max x nrem=nrem:=by omega
      rw[e]at sg
      rw[e]
      exact⟨rfl,nrem,rfl,h1,Nat.le_refl _,sg⟩
     ·rintro c t ⟨rfl,y,rfl,y1,y2,sg⟩
      exact wpS_pure (h y _ R2 y1 y2 sg)
  ·have R1:=Rl.refl lo st'
   have D0:Dsg κ (arrOf st') lo (lo+n):=fun i j i1 i2 i3=>by
    have:i=j:=by omega
    subst this; exact KeyOrd.kle_refl _
   have D1:=D0.more (by omega) (lt_le lt)
   refine wpS_gen (P:=fun t=>Rl lo st' t∧Dsg κ (arrOf t) lo (lo+(n+1))) ⟨R1,D1⟩ fun st1 ⟨R1,D1⟩=>?_
   refine wpS_bind (wpS_lift (wpAny_rule ⟨rfl,?_⟩))
   have eqs:∀ (t:SortSt) (x k:Nat),lo+x - (0+1)≤k→k<lo+x→KK κ (arrOf t) k=KK κ (arrOf t) (lo+x - 1):=fun t x k k1 k2=>by
    have:k=lo+x - 1:=by omega
    rw[this]
   refine wpS_bind (wpS_mono (wpS_forRange (a:=n+1) (b:=nrem) (I:=fun x c t=>∃ neq,c=(none,x,neq)∧Rl lo st' t∧Dsg κ (arrOf t) lo (lo+x)∧neq+1≤x∧∀ k,lo+x - (neq+1)≤k→k<lo+x→KK κ (arrOf t) k=KK κ (arrOf t) (lo+x - 1))
    (Q:=fun c t=>∃ x neq,c=(none,x,neq)∧n+1≤x∧x≤nrem∧Rl lo st' t∧Dsg κ (arrOf t) lo (lo+x)∧neq+1≤x∧∀ k,lo+x - (neq+1)≤k→k<lo+x→KK κ (arrOf t) k=KK κ (arrOf t) (lo+x - 1)) ?_ ?_ ⟨0,rfl,R1,D1,by omega,eqs _ _⟩) ?_)
   ·rintro x c t x1 x2 ⟨neq,rfl,R,D,q1,q2⟩
    have kt:=R.kind.trans hk
    have kk:=R.keys ho
    have sz:=R.size
    have w1:lo+x<(arrOf t).size:=by omega
    refine wpS_bind (lt_at L (i:=lo+x) (j:=lo+x - 1) kt kk (by omega) (by omega) ?_)
    cases e:κ.blt (KK κ (arrOf t) (lo+x)) (KK κ (arrOf t) (lo+x - 1))
    ·refine wpS_bind (lt_at L (i:=lo+x - 1) (j:=lo+x) kt kk (by omega) (by omega) ?_)
     cases e':κ.blt (KK κ (arrOf t) (lo+x - 1)) (KK κ (arrOf t) (lo+x))
     ·have eq:KK κ (arrOf t) (lo+x)=KK κ (arrOf t) (lo+x - 1):=KeyOrd.kle_antisymm e' e
      have n5:neq+1+1≤x+1:=by omega
      refine wpS_pure ⟨neq+1,rfl,R,D.more (by omega) e',n5,fun k k1 k2=>?_⟩
      rw[show lo+(x+1) - 1=lo+x by omega]
      by_cases c:k=lo+x
      ·rw[c]
      ·rw[eq]; exact q2 k (by omega) (by omega)
     ·exact wpS_pure ⟨x,neq,rfl,x1,Nat.le_of_lt x2,R,D,q1,q2⟩
    ·have D':=D.more (by omega) (lt_le e)
     have n5:0+1≤x+1:=by omega
     have w2:lo+x≤(arrOf t).size:=by omega
     refine wpS_yes rfl (wpS_if (fun c=>?_) fun c=>?_)
     ·refine wpS_bind (wpS_modify ?_)
      refine wpS_pure (a:=ForInStep.yield (none,x+1,0)) ?_
      exact⟨0,rfl,R.rev (i:=lo+x - (neq+1)) (j:=lo+x) (by omega) w2,D'.like (KK_mirror_equal w2 q2),n5,eqs _ _⟩
     ·refine wpS_pure (a:=ForInStep.yield (none,x+1,0)) ?_
      exact⟨0,rfl,R,D',n5,eqs _ _⟩
   ·rintro c t ⟨neq,rfl,R,D,q1,q2⟩
    have e:max (n+1) nrem=nrem:=by omega
    rw[e]at D q1 q2
    rw[e]
    exact⟨nrem,neq,rfl,hn,Nat.le_refl _,R,D,q1,q2⟩
   ·rintro c t ⟨x,neq,rfl,x1,x2,R,D,q1,q2⟩
    have w2:lo+x≤(arrOf t).size:=by rw[R.size]; omega
    refine wpS_if (fun c=>wpS_bind (wpS_modify (wpS_gen (P:=fun t=>Rl lo st' t∧Dsg κ (arrOf t) lo (lo+x)) ⟨R.rev (i:=lo+x - (neq+1)) (j:=lo+x) (by omega) w2,D.like (KK_mirror_equal w2 q2)⟩ fun t ⟨R,D⟩=>?_))) fun c=>?_
    all_goals
     have w3:lo+x≤(arrOf t).size:=by rw[R.size]; omega
     refine wpS_bind (wpS_modify (wpS_gen (P:=fun t=>Rl lo st' t∧Seg κ (arrOf t) lo (lo+x)) ⟨R.rev (i:=lo) (j:=lo+x) (Nat.le_refl _) w3,D.flip w3⟩ fun t2 ⟨R2,S2⟩=>?_))
     have kt:=R2.kind.trans hk
     have kk:=R2.keys ho
     have sz:=R2.size
     refine wpS_bind (wpS_mono (wpS_forRange (a:=x) (b:=nrem) (I:=fun y c t=>t=t2∧c=(none,y)∧Seg κ (arrOf t2) lo (lo+y))
      (Q:=fun c t=>t=t2∧∃ y,c=(none,y)∧1≤y∧y≤nrem∧Seg κ (arrOf t2) lo (lo+y)) ?_ ?_ ⟨rfl,rfl,S2⟩) ?_)
     ·rintro y c t y1 y2 ⟨rfl,rfl,sg⟩
      refine wpS_bind (lt_at L (i:=lo+y) (j:=lo+y - 1) kt kk (by omega) (by omega) ?_)
      cases e:κ.blt (KK κ (arrOf t) (lo+y)) (KK κ (arrOf t) (lo+y - 1))
      ·exact wpS_pure ⟨rfl,rfl,sg.more (by omega) e⟩
      ·exact wpS_pure ⟨rfl,y,rfl,by omega,Nat.le_of_lt y2,sg⟩
     ·rintro c t ⟨rfl,rfl,sg⟩
      have e:max x nrem=nrem:=by omega
      rw[e]at sg
      rw[e]
      exact⟨rfl,nrem,rfl,h1,Nat.le_refl _,sg⟩
     ·rintro c t ⟨rfl,y,rfl,y1,y2,sg⟩
      exact wpS_pure (h y _ R2 y1 y2 sg)
end
end TS
end
section
open PySem PyProof.Rows
namespace TS
section
variable {M:Model}{A:Around}{E:Value→Shared→Prop}{s:Shared}{κ:KeyKind}{k0:SortKind}
theorem bin_ok(L:LtR M A E s κ k0){st:SortSt}{lo n ok:Nat}{Q:Bool→SortSt→Prop}(hk:kindOf st=k0)(ho:KeysOf κ (arrOf st))(hz:lo+n≤(arrOf st).size)(h1:ok≤n)(sg:Seg κ (arrOf st) lo (lo+ok))
  (h:∀ st',Rl lo st st'→Seg κ (arrOf st') lo (lo+n)→Q true st'):wpS M A E s (binarySort' lo n ok) Q st:=by
 unfold binarySort'
 refine wpS_bind (wpS_mono (wpS_forRange (I:=fun k c t=>c=(none,())∧Rl lo st t∧Seg κ (arrOf t) lo (lo+min k n)) (Q:=fun c t=>c=(none,())∧Rl lo st t∧Seg κ (arrOf t) lo (lo+n)) ?_ ?_ ⟨rfl,Rl.refl _ _,?_⟩) ?_)
 ·rintro k c t k1 k2 ⟨rfl,R,S⟩
  rw[Nat.min_eq_left (Nat.le_of_lt k2)]at S
  have kt:=R.kind.trans hk
  have kk:=R.keys ho
  have sz:=R.size
  have w1:lo+k<(arrOf t).size:=by omega
  refine wpS_bind (wpS_mono (wpS_forRange (I:=fun x c t'=>t'=t∧∃ l r,c=(none,l,r)∧l≤r∧r≤k∧r - l≤k - x∧(∀ i,i<l→κ.kle (KK κ (arrOf t) (lo+i)) (KK κ (arrOf t) (lo+k)))∧(∀ i,r≤i→i<k→κ.klt (KK κ (arrOf t) (lo+k)) (KK κ (arrOf t) (lo+i))))
   (Q:=fun c t'=>t'=t∧∃ l,c=(none,l,l)∧l≤k∧(∀ i,i<l→κ.kle (KK κ (arrOf t) (lo+i)) (KK κ (arrOf t) (lo+k)))∧(∀ i,l≤i→i<k→κ.klt (KK κ (arrOf t) (lo+k)) (KK κ (arrOf t) (lo+i)))) ?_ ?_
   ⟨rfl,0,k,rfl,Nat.zero_le _,Nat.le_refl _,Nat.le_refl _,fun i hi=>absurd hi (Nat.not_lt_zero i),fun i i1 i2=>absurd i2 (Nat.not_lt.mpr i1)⟩) ?_)
  ·rintro x c t' _ x2 ⟨rfl,l,r,rfl,a1,a2,a3,a4,a5⟩
   by_cases g:l ≥ r
   ·have:l=r:=by omega
    subst this
    exact wpS_yes g (wpS_pure ⟨rfl,l,rfl,a2,a4,a5⟩)
   ·refine wpS_nay g (wpS_bind (lt_at L (i:=lo+k) (j:=lo+(l+r) / 2) kt kk w1 (by omega) ?_))
    cases e:κ.blt (KK κ (arrOf t') (lo+k)) (KK κ (arrOf t') (lo+(l+r) / 2))
    ·have n1:(l+r) / 2+1≤r:=by omega
     have n2:r - ((l+r) / 2+1)≤k - (x+1):=by omega
     have n4:∀ i,i<(l+r) / 2+1→κ.kle (KK κ (arrOf t') (lo+i)) (KK κ (arrOf t') (lo+k)):=fun i i1=>KeyOrd.kle_trans (S (lo+i) (lo+(l+r) / 2) (by omega) (by omega) (by omega)) (show κ.kle _ _ from e)
     exact wpS_nay (by decide) (wpS_pure ⟨rfl,_,r,rfl,n1,a2,n2,n4,a5⟩)
    ·have n1:l≤(l+r) / 2:=by omega
     have n2:(l+r) / 2 - l≤k - (x+1):=by omega
     have n3:(l+r) / 2≤k:=by omega
     have n4:∀ i,(l+r) / 2≤i→i<k→κ.klt (KK κ (arrOf t') (lo+k)) (KK κ (arrOf t') (lo+i)):=fun i i1 i2=>KeyOrd.klt_of_klt_of_kle (show κ.klt _ _ from e) (S (lo+(l+r) / 2) (lo+i) (by omega) (by omega) (by omega))
     exact wpS_yes rfl (wpS_pure ⟨rfl,l,_,rfl,n1,n3,n2,a4,n4⟩)
  ·rintro c t' ⟨rfl,l,r,rfl,a1,a2,a3,a4,a5⟩
   have:l=r:=by omega
   subst this
   exact⟨rfl,l,rfl,a2,a4,a5⟩
  ·rintro c t' ⟨rfl,l,rfl,a2,a4,a5⟩
   refine wpS_bind (wpS_modify ?_)
   refine wpS_pure (a:=ForInStep.yield (none,())) ⟨rfl,R.bub (k:=lo+k) (d:=lo+k - (lo+l)) (by omega) (by omega) w1,?_⟩
   rw[show min (k+1) n=k+1 by omega]
   intro i j i1 i2 i3
   show κ.kle (KK κ (bubble (arrOf t') (lo+k) (lo+k - (lo+l))) i) (KK κ (bubble (arrOf t') (lo+k) (lo+k - (lo+l))) j)
   rw[KK_bubble w1 (by omega),KK_bubble w1 (by omega),show lo+k - (lo+k - (lo+l))=lo+l by omega]
   obtain⟨u,rfl⟩:=Nat.exists_eq_add_of_le i1
   obtain⟨v,rfl⟩:=Nat.exists_eq_add_of_le (Nat.le_trans i1 i2)
   by_cases c1:lo+u=lo+l
   ·rw[if_pos c1]
    by_cases c2:lo+v=lo+l
    ·rw[if_pos c2]; exact KeyOrd.kle_refl _
    ·rw[if_neg c2,if_pos (by omega)]
     have:=a5 (v - 1) (by omega) (by omega)
     rw[show lo+v - 1=lo+(v - 1) by omega]
     exact KeyOrd.kle_of_klt this
   ·rw[if_neg c1]
    by_cases c2:lo+v=lo+l
    ·rw[if_pos c2,if_neg (by omega)]
     exact a4 u (by omega)
    ·rw[if_neg c2]
     by_cases c3:lo+l<lo+u∧lo+u≤lo+k
     ·rw[if_pos c3,if_pos (by omega)]
      exact S _ _ (by omega) (by omega) (by omega)
     ·rw[if_neg c3]
      by_cases c4:lo+l<lo+v∧lo+v≤lo+k
      ·rw[if_pos c4]
       exact S _ _ (by omega) (by omega) (by omega)
      ·rw[if_neg c4]
       exact S _ _ (by omega) (by omega) (by omega)
 ·rintro c t ⟨rfl,R,S⟩
  refine⟨rfl,R,?_⟩
  rwa [show min (max (max ok 1) n) n=n by omega]at S
 ·intro i j i1 i2 i3
  by_cases c:ok=0
  ·have:i=j:=by omega
   subst this; exact KeyOrd.kle_refl _
  ·exact sg i j i1 i2 (by omega)
 ·rintro c t ⟨rfl,R,S⟩
  exact wpS_pure (h t R S)
end
end TS
end
section
open PySem PyProof.Rows
namespace TS
section
variable {M:Model}{A:Around}{E:Value→Shared→Prop}{s:Shared}{κ:KeyKind}{k0:SortKind}
abbrev Pn:=List (Nat×Nat×Nat)
noncomputable def Run(κ:KeyKind)(xs:Array Keyed):Pn→Nat→Nat→Prop
 |[],a,b=>a=b
 |(p,n,_)::l,a,b=>p=a∧0<n∧Seg κ xs a (a+n)∧Run κ xs l (a+n) b
variable {xs ys:Array Keyed}
theorem Run.app:∀ {l m:Pn}{a b:Nat},Run κ xs (l++m) a b↔∃ c,Run κ xs l a c∧Run κ xs m c b
 |[],m,a,b=>⟨fun h=>⟨a,rfl,h⟩,fun ⟨c,e,h⟩=>by cases e; exact h⟩
 |(p,n,w)::l,m,a,b=>by
  constructor
  ·rintro⟨h1,h2,h3,h4⟩
   obtain⟨c,g1,g2⟩:=Run.app.mp h4
   exact⟨c,⟨h1,h2,h3,g1⟩,g2⟩
  ·rintro⟨c,⟨h1,h2,h3,g1⟩,g2⟩
   exact⟨h1,h2,h3,Run.app.mpr ⟨c,g1,g2⟩⟩
theorem Run.len:∀ {l:Pn}{a b:Nat},Run κ xs l a b→a+l.length≤b
 |[],a,b,h=>by cases h; exact Nat.le_refl _
 |(p,n,w)::l,a,b,⟨h1,h2,h3,h4⟩=>by
  have:=h4.len
  rw[List.length_cons]; omega
theorem Run.mono:∀ {l:Pn}{a b:Nat},Run κ xs l a b→(∀ j,a≤j→j<b→ys[j]?=xs[j]?)→Run κ ys l a b
 |[],a,b,h,_=>h
 |(p,n,w)::l,a,b,⟨h1,h2,h3,h4⟩,e=>by
  have g:=h4.len
  refine⟨h1,h2,fun i j i1 i2 i3=>?_,h4.mono fun j j1 j2=>e j (by omega) j2⟩
  rw[KK_congr (e i i1 (by omega)),KK_congr (e j (by omega) (by omega))]
  exact h3 i j i1 i2 i3
theorem Run.mod{f:Nat×Nat×Nat→Nat×Nat×Nat}(hf:∀ x,(f x).1=x.1∧(f x).2.1=x.2.1):∀ {l:Pn}{a b:Nat}(i:Nat),Run κ xs l a b→Run κ xs (l.modify i f) a b
 |[],a,b,i,h=>by simpa using h
 |(p,n,w)::l,a,b,0,⟨h1,h2,h3,h4⟩=>by
  have e:(((p,n,w)::l).modify 0 f)=f (p,n,w)::l:=by simp
  rw[e]
  have q:=hf (p,n,w)
  generalize f (p,n,w)=y at q
  obtain⟨y1,y2,y3⟩:=y
  obtain⟨q1,q2⟩:=q
  cases q1
  cases q2
  exact⟨h1,h2,h3,h4⟩
 |(p,n,w)::l,a,b,i+1,⟨h1,h2,h3,h4⟩=>by
  have e:(((p,n,w)::l).modify (i+1) f)=(p,n,w)::l.modify i f:=by simp
  rw[e]
  exact⟨h1,h2,h3,h4.mod hf i⟩
theorem Run.push{l:Pn}{a b n:Nat}(h:Run κ xs l a b)(hn:0<n)(hs:Seg κ xs b (b+n))(w:Nat):Run κ xs (l++[(b,n,w)]) a (b+n):=Run.app.mpr ⟨b,h,rfl,hn,hs,rfl⟩
structure Inv (κ:KeyKind) (k0:SortKind) (a0:Array Keyed) (lo:Nat) (t:SortSt):Prop where
 kind:kindOf t=k0
 fail:failedOf t=none
 perm:(arrOf t).Perm a0
 runs:Run κ (arrOf t) (pendingOf t).toList 0 lo
 le:lo≤a0.size
variable {a0:Array Keyed}{lo:Nat}{t:SortSt}
theorem Inv.size(h:Inv κ k0 a0 lo t):(arrOf t).size=a0.size:=h.perm.size_eq
theorem Inv.keys(h:Inv κ k0 a0 lo t)(k:KeysOf κ a0):KeysOf κ (arrOf t):=fun p hp=>k p ((Array.perm_iff_toList_perm.mp h.perm).mem_iff.mp hp)
theorem Inv.of{t':SortSt}(h:Inv κ k0 a0 lo t)(R:Rl lo t t'):Inv κ k0 a0 lo t':=
 ⟨R.kind.trans h.kind,R.fail.trans h.fail,R.perm.trans h.perm,by rw[R.pend]; exact h.runs.mono fun j _ j2=>R.same j j2,h.le⟩
theorem split2{l:Pn}{i:Nat}(h:i+1<l.length):∃ l1 x y l2,l=l1++x::y::l2∧l1.length=i:=by
 refine⟨l.take i,l[i],l[i+1],l.drop (i+2),?_,by rw[List.length_take]; omega⟩
 rw[← List.drop_eq_getElem_cons,← List.drop_eq_getElem_cons,List.take_append_drop]
theorem mrg_ok(L:LtR M A E s κ k0){i:Nat}{Q:Bool→SortSt→Prop}(ho:KeysOf κ a0)(I:Inv κ k0 a0 lo t)(hi:i+1<(pendingOf t).size)
  (h:∀ t',Inv κ k0 a0 lo t'→(pendingOf t').size+1=(pendingOf t).size→(∀ j,lo≤j→(arrOf t')[j]?=(arrOf t)[j]?)→Q true t'):wpS M A E s (mergeAt' i) Q t:=by
 obtain⟨l1,⟨p,n,w⟩,⟨p',n',w'⟩,l2,e,hl⟩:=split2 (l:=(pendingOf t).toList) (by rw[Array.length_toList]; exact hi)
 have R:=I.runs
 rw[e]at R
 obtain⟨c,R1,rfl,n1,S1,rfl,n2,S2,R2⟩:=Run.app.mp R
 have z:=R2.len
 have g1:=R1.len
 have hz:p+n+n'≤(arrOf t).size:=by rw[I.size]; have:=I.le; omega
 have p1:(pendingOf t)[i]?=some (p,n,w):=by
  rw[← Array.getElem?_toList,e,List.getElem?_append_right (by omega),hl,Nat.sub_self]; rfl
 have p2:(pendingOf t)[i+1]?=some (p+n,n',w'):=by
  rw[← Array.getElem?_toList,e,List.getElem?_append_right (by omega),hl,Nat.add_sub_cancel_left]; rfl
 refine mat_ok L I.kind p1 p2 n1 n2 hz (I.keys ho) S1 S2 I.fail fun t' h1 h2 h3 h4 h5 h6=>?_
 have el:(pendingOf t').toList=l1++(p,n+n',w)::l2:=by
  rw[h6]
  have e1:((pendingOf t).setIfInBounds i (p,n+n',w)).toList=l1++(p,n+n',w)::(p+n,n',w')::l2:=by
   rw[Array.toList_setIfInBounds,e,List.set_append,if_neg (by omega),hl,Nat.sub_self]; rfl
  have e2:i+1<((pendingOf t).setIfInBounds i (p,n+n',w)).size:=by rw[Array.size_setIfInBounds]; exact hi
  unfold Array.eraseIdxIfInBounds
  rw[dif_pos e2,Array.toList_eraseIdx,e1,List.eraseIdx_append_of_length_le (by omega),hl,Nat.add_sub_cancel_left]
  rfl
 refine h t' ⟨h1,h2,h3.trans I.perm,?_,I.le⟩ ?_ fun j hj=>h5 j (.inr (by omega))
 ·rw[el]
  refine Run.app.mpr ⟨p,R1.mono fun j _ j2=>h5 j (.inl j2),rfl,by omega,?_,?_⟩
  ·rw[← Nat.add_assoc]; exact h4
  ·rw[← Nat.add_assoc]; exact R2.mono fun j j1 _=>h5 j (.inr j1)
 ·rw[← Array.length_toList,← Array.length_toList,el,e]
  simp only[List.length_append,List.length_cons]
  omega
end
end TS
end
section
open PySem PyProof.Rows
namespace TS
section
variable {M:Model}{A:Around}{E:Value→Shared→Prop}{s:Shared}{κ:KeyKind}{k0:SortKind}
theorem ite_lt{c:Prop} [Decidable c]{m:Nat}(h:2≤m):(if c then m - 2 - 1 else m - 2)+1<m:=by split<;>omega
theorem srt_ok(L:LtR M A E s κ k0){st:SortSt}{Q:Unit→SortSt→Prop}(hk:kindOf st=k0)(ho:KeysOf κ (arrOf st))(hf:failedOf st=none)(hp:pendingOf st=#[])(h1:1≤(arrOf st).size)
  (h:∀ t,(arrOf t).Perm (arrOf st)→failedOf t=none→Seg κ (arrOf t) 0 (arrOf st).size→Q () t):wpS M A E s sortRuns' Q st:=by
 unfold sortRuns'
 refine wpS_bind (wpS_get ?_)
 have I0:Inv κ k0 (arrOf st) 0 st:=⟨hk,hf,Array.Perm.refl _,by rw[hp]; rfl,Nat.zero_le _⟩
 refine wpS_bind (wpS_mono (wpS_forRange (a:=0) (b:=(arrOf st).size) (I:=fun x c t=>∃ lo,c=(none,lo)∧Inv κ k0 (arrOf st) lo t∧x≤lo) (Q:=fun c t=>c=(none,(arrOf st).size)∧Inv κ k0 (arrOf st) (arrOf st).size t) ?_ ?_ ⟨0,rfl,I0,Nat.le_refl _⟩) ?_)
 ·rintro x c t _ x2 ⟨lo,rfl,I,hx⟩
  have ile:=I.le
  by_cases g:lo ≥ (arrOf st).size
  ·have:lo=(arrOf st).size:=by omega
   subst this
   exact wpS_yes g (wpS_pure ⟨rfl,I⟩)
  refine wpS_nay g ?_
  have sz:=I.size
  refine wpS_bind (cnt_ok L (lo:=lo) (nrem:=(arrOf st).size - lo) I.kind (I.keys ho) (by omega) (by omega) fun m t1 R1 m1 m2 S1=>?_)
  have I1:=I.of R1
  have sz1:=I1.size
  have W:∀ {n:Nat},0<n→n≤(arrOf st).size - lo→∀ {t2:SortSt},Inv κ k0 (arrOf st) lo t2→Seg κ (arrOf t2) lo (lo+n)→
    Inv κ k0 (arrOf st) (lo+n) (SortSt.mk' (kindOf t2) (arrOf t2) ((pendingOf t2).push (lo,n,0)) (gallopOf t2) (failedOf t2)):=fun {n} n1 n2 {t2} I2 S2=>
   ⟨I2.kind,I2.fail,I2.perm,by
    show Run κ (arrOf t2) ((pendingOf t2).push (lo,n,0)).toList 0 (lo+n)
    rw[Array.toList_push]
    exact I2.runs.push n1 S2 0,by omega⟩
  refine wpS_if (fun c=>?_) fun c=>?_
  ·refine wpS_bind (wpS_lift (wpAny_rule ⟨rfl,?_⟩))
   have c:m<minRun' (arrOf st).size (arrOf st).size 0:=c
   have n1:0<min ((arrOf st).size - lo) (minRun' (arrOf st).size (arrOf st).size 0):=by omega
   have n2:min ((arrOf st).size - lo) (minRun' (arrOf st).size (arrOf st).size 0)≤(arrOf st).size - lo:=by omega
   have n3:x+1≤lo+min ((arrOf st).size - lo) (minRun' (arrOf st).size (arrOf st).size 0):=by omega
   refine wpS_bind (bin_ok L (lo:=lo) (n:=min ((arrOf st).size - lo) (minRun' (arrOf st).size (arrOf st).size 0)) (ok:=m) I1.kind (I1.keys ho) (by omega) (by omega) S1 fun t2 R2 S2=>wpS_nay (by decide) ?_)
   have I2:=I1.of R2
   refine wpS_bind (wpS_get ?_)
   split
   ·refine wpS_bind (wpS_mono (wpS_forRange (a:=0) (b:=(arrOf st).size) (I:=fun y c t=>c=(none,())∧Inv κ k0 (arrOf st) lo t∧Seg κ (arrOf t) lo (lo+min ((arrOf st).size - lo) (minRun' (arrOf st).size (arrOf st).size 0))) (Q:=fun c t=>c=(none,())∧Inv κ k0 (arrOf st) lo t∧Seg κ (arrOf t) lo (lo+min ((arrOf st).size - lo) (minRun' (arrOf st).size (arrOf st).size 0))) ?_ (fun _ _ q=>q) ⟨rfl,I2,S2⟩) ?_)
    ·rintro y c t3 _ _ ⟨rfl,I3,S3⟩
     refine wpS_bind (wpS_get ?_)
     by_cases g2:(pendingOf t3).size > 1
     ·dsimp only
      rw[if_pos g2,getElem?_pos (pendingOf t3) ((pendingOf t3).size - 2) (by omega)]
      refine wpS_if (fun _=>wpS_pure ⟨rfl,I3,S3⟩) fun _=>?_
      refine wpS_bind (mrg_ok L (i:=(pendingOf t3).size - 2) ho I3 (by omega) fun t4 I4 _ e4=>wpS_nay (by decide) (wpS_pure ⟨rfl,I4,fun i j i1 i2 i3=>?_⟩))
      rw[KK_congr (e4 i i1),KK_congr (e4 j (by omega))]
      exact S3 i j i1 i2 i3
     ·dsimp only
      rw[if_neg g2]
      exact wpS_pure ⟨rfl,I3,S3⟩
    ·rintro c t3 ⟨rfl,I3,S3⟩
     refine wpS_bind (wpS_modify ?_)
     refine wpS_bind (wpS_modify ?_)
     refine wpS_pure ⟨lo+min ((arrOf st).size - lo) (minRun' (arrOf st).size (arrOf st).size 0),rfl,W n1 n2 ⟨I3.kind,I3.fail,I3.perm,?_,I3.le⟩ S3,n3⟩
     show Run κ (arrOf t3) ((pendingOf t3).modify _ _).toList 0 lo
     rw[Array.toList_modify]
     refine Run.mod ?_ _ I3.runs
     intro x
     exact⟨rfl,rfl⟩
   ·exact wpS_bind (wpS_modify (wpS_pure ⟨lo+min ((arrOf st).size - lo) (minRun' (arrOf st).size (arrOf st).size 0),rfl,W n1 n2 I2 S2,n3⟩))
  ·have n1:0<m:=m1
   have n3:x+1≤lo+m:=by omega
   have n2:=m2
   have I2:=I1
   have S2:=S1
   refine wpS_bind (wpS_get ?_)
   split
   ·refine wpS_bind (wpS_mono (wpS_forRange (a:=0) (b:=(arrOf st).size) (I:=fun y c t=>c=(none,())∧Inv κ k0 (arrOf st) lo t∧Seg κ (arrOf t) lo (lo+m)) (Q:=fun c t=>c=(none,())∧Inv κ k0 (arrOf st) lo t∧Seg κ (arrOf t) lo (lo+m)) ?_ (fun _ _ q=>q) ⟨rfl,I2,S2⟩) ?_)
    ·rintro y c t3 _ _ ⟨rfl,I3,S3⟩
     refine wpS_bind (wpS_get ?_)
     by_cases g2:(pendingOf t3).size > 1
     ·dsimp only
      rw[if_pos g2,getElem?_pos (pendingOf t3) ((pendingOf t3).size - 2) (by omega)]
      refine wpS_if (fun _=>wpS_pure ⟨rfl,I3,S3⟩) fun _=>?_
      refine wpS_bind (mrg_ok L (i:=(pendingOf t3).size - 2) ho I3 (by omega) fun t4 I4 _ e4=>wpS_nay (by decide) (wpS_pure ⟨rfl,I4,fun i j i1 i2 i3=>?_⟩))
      rw[KK_congr (e4 i i1),KK_congr (e4 j (by omega))]
      exact S3 i j i1 i2 i3
     ·dsimp only
      rw[if_neg g2]
      exact wpS_pure ⟨rfl,I3,S3⟩
    ·rintro c t3 ⟨rfl,I3,S3⟩
     refine wpS_bind (wpS_modify ?_)
     refine wpS_bind (wpS_modify ?_)
     refine wpS_pure ⟨lo+m,rfl,W n1 n2 ⟨I3.kind,I3.fail,I3.perm,?_,I3.le⟩ S3,n3⟩
     show Run κ (arrOf t3) ((pendingOf t3).modify _ _).toList 0 lo
     rw[Array.toList_modify]
     refine Run.mod ?_ _ I3.runs
     intro x
     exact⟨rfl,rfl⟩
   ·exact wpS_bind (wpS_modify (wpS_pure ⟨lo+m,rfl,W n1 n2 I2 S2,n3⟩))
 ·rintro c t ⟨lo,rfl,I,hx⟩
  have:=I.le
  have:lo=(arrOf st).size:=by omega
  subst this
  exact⟨rfl,I⟩
 ·rintro c t ⟨rfl,I⟩
  have pl:(pendingOf t).size≤(arrOf st).size:=by
   have:=I.runs.len
   rw[Array.length_toList]at this; omega
  refine wpS_bind (wpS_mono (wpS_forRange (a:=0) (b:=(arrOf st).size) (I:=fun x c t=>c=(none,())∧Inv κ k0 (arrOf st) (arrOf st).size t∧((pendingOf t).size≤1∨(pendingOf t).size+x≤(arrOf st).size))
   (Q:=fun c t=>c=(none,())∧Inv κ k0 (arrOf st) (arrOf st).size t∧(pendingOf t).size≤1) ?_ ?_ ⟨rfl,I,.inr (by omega)⟩) ?_)
  ·rintro x c t _ x2 ⟨rfl,I,q⟩
   refine wpS_bind (wpS_get ?_)
   refine wpS_if (fun g=>wpS_pure ⟨rfl,I,g⟩) fun g=>?_
   have g':2≤(pendingOf t).size:=Nat.lt_of_not_le g
   have fin:∀ i,i+1<(pendingOf t).size→∀ {P:Bool→SortSt→Prop},(∀ t',Inv κ k0 (arrOf st) (arrOf st).size t'→(pendingOf t').size+1=(pendingOf t).size→(∀ j,(arrOf st).size≤j→(arrOf t')[j]?=(arrOf t)[j]?)→P true t')→wpS M A E s (mergeAt' i) P t:=fun i hi P hP=>mrg_ok L ho I hi hP
   refine wpS_bind (fin _ ?_ fun t' I' e _=>?_)
   ·exact ite_lt g'
   ·have n1:(pendingOf t').size≤1∨(pendingOf t').size+(x+1)≤(arrOf st).size:=by omega
    exact wpS_nay (by decide) (wpS_pure ⟨rfl,I',n1⟩)
  ·rintro c t ⟨rfl,I,q⟩
   exact⟨rfl,I,by omega⟩
  ·rintro c t ⟨rfl,I,q⟩
   refine wpS_pure (h t I.perm I.fail ?_)
   have R:=I.runs
   have ln:(pendingOf t).toList.length≤1:=by rw[Array.length_toList]; exact q
   generalize (pendingOf t).toList=l at R ln
   match l,R,ln with
   |[],R,_=>
    have e:0=(arrOf st).size:=R
    omega
   |[(p,n,w)],R,_=>
    obtain⟨_,_,S,e⟩:=R
    have e:0+n=(arrOf st).size:=e
    rw[← e]
    exact S
   |_::_::_,_,ln=>simp at ln
end
end TS
end
section
open PySem PyProof.Rows PySem.W
namespace TS
noncomputable def pk(h:Heap):Value→Option (Int×Int)
 |.ref a=>(h.get? a).bind fun o=>match o.data with
  |.seq its _=>match its.toList with
   |[.int x _,.int y _]=>some (x,y)
   |_=>none
  |_=>none
 |_=>none
noncomputable def plt(a b:Int×Int):Bool:=decide (a.1<b.1)||(decide (a.1=b.1)&&decide (a.2<b.2))
theorem plt_iff{a b:Int×Int}:plt a b=true↔a.1<b.1∨(a.1=b.1∧a.2<b.2):=by
 unfold plt
 simp only[Bool.or_eq_true,Bool.and_eq_true,decide_eq_true_eq]
noncomputable def pO:KeyOrd where
 α:=Int×Int
 blt:=plt
 irrefl a:=by
  cases h:plt a a
  ·rfl
  ·rw[plt_iff]at h; omega
 trans a b c h g:=by
  rw[plt_iff]at *; omega
 negTrans a b c h:=by
  rw[plt_iff]at *
  rw[plt_iff]; omega
 total a b h g:=by
  have h':¬ plt a b=true:=by rw[h]; decide
  have g':¬ plt b a=true:=by rw[g]; decide
  rw[plt_iff]at h' g'
  exact Prod.ext (by omega) (by omega)
noncomputable def pK(h:Heap):KeyKind:={ pO with keyOf:=pk h,dflt:=(0,0) }
theorem pk_el{h:Heap}{v:Value}{k:Int×Int}(e:pk h v=some k):∃ a o its n t u,v=.ref a∧h.get? a=some o∧o.data=.seq its n∧its.toList=[.int k.1 t,.int k.2 u]:=by
 unfold pk at e
 split at e
 ·rename_i a
  obtain⟨o,e1,e⟩:=Option.bind_eq_some_iff.mp e
  split at e
  ·rename_i its n hd
   split at e
   ·rename_i x t y u hl
    cases e
    exact⟨a,o,its,n,t,u,rfl,e1,hd,hl⟩
   ·cases e
  ·cases e
 ·cases e
theorem pk_mk{h:Heap}{a:Addr}{o:Obj}{its:Array Value}{n:Nat}{x y:Int}{t u:Tok}(e:h.get? a=some o)(d:o.data=.seq its n)(l:its.toList=[.int x t,.int y u]):pk h (.ref a)=some (x,y):=by
 unfold pk
 simp only[e,Option.bind_some,d,l]
section
variable {prog:Program}{w:World}{A:Around}{E:Value→Shared→Prop}{s:Shared}
theorem lt_pair{x y:Value}{a b:Int×Int}(hx:pk s.heap x=some a)(hy:pk s.heap y=some b){Q:Bool→Shared→Prop}(h:Q (plt a b) s):wpAny (model prog w) A (keyLt' (tuples' true) x y) Q E s:=by
 obtain⟨p,o,its,n,t,u,rfl,e1,d1,l1⟩:=pk_el hx
 obtain⟨p',o',its',n',t',u',rfl,e2,d2,l2⟩:=pk_el hy
 refine kat_lt e1 d1 e2 d2 ?_
 rw[l1,l2]
 refine kat_cons (wpAny_eqBool_int (kat_go (fun c=>kat_yes ?_) fun c=>kat_no (oneLt_int ?_)))
 ·have c1:a.1=b.1:=by simpa using c
  refine kat_cons (wpAny_eqBool_int (kat_go (fun c=>kat_yes (kat_nil ?_)) fun c=>kat_no (kat_one _ _ (lt_int (show Q _ s from ?_)))))
  ·have c2:a.2=b.2:=by simpa using c
   have z:its.size=its'.size:=by rw[← Array.length_toList,← Array.length_toList,l1,l2]; rfl
   have e:plt a b=decide (its.size<its'.size):=by
    rw[z,decide_eq_false (Nat.lt_irrefl _)]
    unfold plt
    rw[decide_eq_false (by omega),decide_eq_false (show ¬ a.2<b.2 by omega)]
    simp
   rw[← e]
   exact h
  ·have e:plt a b=decide (a.2<b.2):=by
    unfold plt
    rw[decide_eq_false (show ¬ a.1<b.1 by omega),decide_eq_true c1]
    simp
   rw[← e]
   exact h
 ·have c1:a.1≠b.1:=by simpa using c
  have e:plt a b=decide (a.1<b.1):=by
   unfold plt
   rw[decide_eq_false c1]
   simp
  rw[← e]
  exact h
theorem ltR_pair:LtR (model prog w) A E s (pK s.heap) (tuples' true):=by
 intro x y a b hx hy Q st hk h
 rw[lt'_eq]
 refine wpS_bind (wpS_get ?_)
 rw[hk]
 refine wpS_bind (wpS_lift (wpAny_attempt (lt_pair (a:=a) (b:=b) hx hy ⟨rfl,?_⟩)))
 exact wpS_pure h
end
end TS
end
section
open PySem PyProof.Rows PySem.W
namespace TS
def Pr(h:Heap)(v:Value):Prop:=∃ a o its n x y t u,v=.ref a∧h.get? a=some o∧o.cls=.type "tuple"∧o.data=.seq its n∧its.toList=[.int x t,.int y u]
theorem Pr.key{h:Heap}{v:Value}(p:Pr h v):∃ k,pk h v=some k:=by
 obtain⟨a,o,its,n,x,y,t,u,rfl,e,_,d,l⟩:=p
 exact⟨_,pk_mk e d l⟩
theorem Pr.to{h h':Heap}{v:Value}(p:Pr h v)(k:∀ b o,h.get? b=some o→o.cls=.type "tuple"→h'.get? b=some o):Pr h' v∧pk h' v=pk h v:=by
 obtain⟨a,o,its,n,x,y,t,u,rfl,e,c,d,l⟩:=p
 exact⟨⟨a,o,its,n,x,y,t,u,rfl,k a o e c,c,d,l⟩,by rw[pk_mk (k a o e c) d l,pk_mk e d l]⟩
theorem tups_of{h:Heap}:∀ (vs:List Value),(∀ v∈vs,Pr h v)→∃ fs,KatTups h vs fs∧fs.length=vs.length∧∀ f∈fs,∃ x t,f=Value.int x t
 |[],_=>⟨[],KatTups.nil,rfl,fun f hf=>nomatch hf⟩
 |v::vs,p=>by
  obtain⟨fs,k,e,g⟩:=tups_of vs fun v hv=>p v (List.mem_cons_of_mem _ hv)
  obtain⟨a,o,its,n,x,y,t,u,rfl,ea,c,d,l⟩:=p v List.mem_cons_self
  have e0:its[0]?=some (.int x t):=by rw[← Array.getElem?_toList,l]; rfl
  refine⟨.int x t::fs,KatTups.cons ea c d e0 k,by rw[List.length_cons,e]; rfl,fun f hf=>?_⟩
  rcases List.mem_cons.mp hf with rfl|hf
  ·exact⟨x,t,rfl⟩
  ·exact g f hf
def Up(h:Heap)(vs:List Value):Prop:=vs.Pairwise fun a b=>pO.kle ((pk h a).getD (0,0)) ((pk h b).getD (0,0))
theorem Up.like{h h':Heap}{vs:List Value}(u:Up h vs)(e:∀ v∈vs,pk h' v=pk h v):Up h' vs:=by
 refine List.Pairwise.imp_of_mem (fun {a b} ha hb q=>?_) u
 rw[e a ha,e b hb]; exact q
theorem pairs_keys{h:Heap}{vs:List Value}(p:∀ v∈vs,Pr h v):KeysOf (pK h) (pairsOf vs):=fun q hq=>by
 rw[pairsOf_toList]at hq
 exact(p _ (mem_zip_self hq).2).key
theorem out_of{h:Heap}{vs:List Value}{xs:Array Keyed}(hp:xs.Perm (pairsOf vs))(hs:Seg (pK h) xs 0 (pairsOf vs).size):(xs.map (·.2)).toList.Perm vs∧Up h (xs.map (·.2)).toList:=by
 have q:xs.toList.Perm (vs.zip vs):=by rw[← pairsOf_toList]; exact Array.perm_iff_toList_perm.mp hp
 have e:(xs.map (·.2)).toList=xs.toList.map (·.1):=by
  rw[Array.toList_map]
  exact List.map_congr_left fun p hp=>(mem_zip_self (q.mem_iff.mp hp)).1.symm
 rw[e]
 constructor
 ·have:=q.map Prod.fst
  rwa [List.map_fst_zip (Nat.le_refl _)]at this
 ·unfold Up
  rw[List.pairwise_map,List.pairwise_iff_getElem]
  intro i j hi hj hij
  have hj':j<xs.size:=by rw[← Array.length_toList]; exact hj
  have z:=hs i j (Nat.zero_le _) (by omega) (by rw[← hp.size_eq]; exact hj')
  rw[KK_at (by omega),KK_at hj']at z
  simp only[Array.getElem_toList]
  exact z
section
variable {prog:Program}{w:World}{A:Around}{E:Value→Shared→Prop}{s:Shared}
theorem sort_pairs{a:Addr}{vs:List Value}{n:Nat}{P:PySem.Fin→Shared→Prop}(ho:s.heap.get? a=some (seqObj "list" vs.toArray n))(pr:∀ v∈vs,Pr s.heap v)(hz:vs.length≤sizeLine)
  (h:∀ out:Array Value,out.toList.Perm vs→Up s.heap out.toList→P (.done (.ret .none)) { s with heap:=sortedHeap s.heap a vs out }):wpAny (model prog w) A (Builtin.«list.sort» ⟨[.ref a],[]⟩) P E s:=by
 rw[list_sort_plain]
 have ha:=Heap.lt_size ho
 obtain⟨e1,ho1⟩:∃ e,(s.heap.update a (Obj.mapSeq fun _=>#[])).get? a=some (seqObj "list" #[] e):=⟨_,get?_update_seq ho _⟩
 refine wpAny_bind (listItems_at ho rfl (wpAny_bind (listUpdate_at ho rfl (wpAny_bind (seqEpoch_at ho1 rfl (wpAny_bind (wpAny_newTuple (wpAny_bind (wpAny_newList (wpAny_holding ?_))))))))))
 generalize hH:((s.heap.update a (Obj.mapSeq fun _=>#[])).push (seqObj "tuple" vs.toArray 0)).push (seqObj "list" #[] 0)=hp
 have hS:∀ b o,s.heap.get? b=some o→b≠a→hp.get? b=some o:=fun b o e ne=>by
  rw[← hH]
  exact Heap.get?_push_of_some _ (Heap.get?_push_of_some _ (by rw[Heap.get?_update_ne _ _ _ _ ne]; exact e))
 have ho6:hp.get? a=some (seqObj "list" #[] e1):=by
  rw[← hH]
  exact Heap.get?_push_of_some _ (Heap.get?_push_of_some _ ho1)
 have hk:∀ b o,s.heap.get? b=some o→o.cls=.type "tuple"→hp.get? b=some o:=fun b o e c=>hS b o e fun x=>by
  subst x
  rw[ho]at e
  cases e
  have c:Value.type "list" = Value.type "tuple":=c
  injection c with c
  exact absurd c (by decide)
 have fin:∀ out:Array Value,out.toList.Perm vs→Up hp out.toList→P (.done (.ret .none)) { s with heap:=hp.update a (Obj.mapSeq fun _=>out) }:=fun out o1 o2=>by
  rw[← hH]
  exact h out o1 (o2.like fun v hv=>((pr v (o1.mem_iff.mp hv)).to hk).2.symm)
 have pr':∀ v∈vs,Pr hp v:=fun v hv=>((pr v hv).to hk).1
 have ps:vs.toArray.zip vs.toArray=pairsOf vs:=rfl
 rw[ps]
 have tail:∀ st:SortSt,failedOf st=none→(arrOf st).Perm (pairsOf vs)→Seg (pK hp) (arrOf st) 0 (pairsOf vs).size→((arrOf st).map (·.2)).size≤sizeLine∧P (.done (.ret .none)) { s with heap:=hp.update a (Obj.mapSeq fun _=>(arrOf st).map (·.2)) }:=fun st _ q2 q3=>by
  have o:=out_of q2 q3
  exact⟨by rw[Array.size_map,q2.size_eq,pairsOf_size]; exact hz,fin _ o.1 o.2⟩
 have vz:vs.toArray.size=vs.length:=by simp
 by_cases h2:vs.toArray.size<2
 ·simp only[if_pos h2]
  refine wpAny_bind (wpAny_pure ?_)
  rw[StateT.run_pure]
  refine wpAny_bind (wpAny_pure ?_)
  have T:=tail (SortSt.mk' general' (pairsOf vs) #[] 7 none) rfl (Array.Perm.refl _) (fun i j _ h1 h3=>by
   have:i=j:=by rw[pairsOf_size]at h3; omega
   subst this; exact KeyOrd.kle_refl _)
  refine wpAny_bind (seqEpoch_at ho6 rfl (wpAny_bind (listUpdate_at ho6 rfl ?_ (hsz2:=Nat.le_succ_of_le T.1))))
  simp only[bne_self_eq_false,Bool.false_eq_true,if_false]
  exact wpAny_pure T.2
 ·simp only[if_neg h2]
  obtain⟨fs,k1,k2,k3⟩:=tups_of vs pr'
  refine wpAny_bind (kat_kind (s:={ s with heap:=hp }) (T:=.type "int") k1 (by omega) (fun v hv=>by
   obtain⟨x,t,rfl⟩:=k3 v hv
   exact Looks.now) (by decide) ?_)
  have e0:tuples' (Value.type "int" != Value.type "tuple")=tuples' true:=rfl
  rw[e0]
  refine wpAny_bind (wpAny_mono (srt_ok (ltR_pair (s:={ s with heap:=hp })) (st:=SortSt.mk' (tuples' true) (pairsOf vs) #[] 7 none) (Q:=fun _ t=>failedOf t=none∧(arrOf t).Perm (pairsOf vs)∧Seg (pK hp) (arrOf t) 0 (pairsOf vs).size)
   rfl (pairs_keys pr') rfl rfl (by show 1≤(pairsOf vs).size; rw[pairsOf_size]; omega) fun t a1 a2 a3=>⟨a2,a1,a3⟩) ?_ fun _ _ e=>e)
  rintro⟨⟨⟩,st⟩ s' ⟨rfl,q1,q2,q3⟩
  have T:=tail st q1 q2 q3
  refine wpAny_bind (seqEpoch_at ho6 rfl (wpAny_bind (listUpdate_at ho6 rfl ?_ (hsz2:=Nat.le_succ_of_le T.1))))
  dsimp only
  rw[q1]
  simp only[bne_self_eq_false,Bool.false_eq_true,if_false]
  exact wpAny_pure T.2
theorem sorted_pairs{l:Addr}{vs:List Value}{Q:Value→Shared→Prop}(hl:s.heap.IsList l vs.toArray)(pr:∀ v∈vs,Pr s.heap v)(hz:vs.length≤sizeLine)
  (h:∀ out:Array Value,out.toList.Perm vs→Up s.heap out.toList→Q (.ref (s.heap.objs.size+1)) { s with heap:=sortedAll s.heap vs out }):wpAny (model prog w) A (call (.builtin "sorted") [.ref l]) Q E s:=by
 refine Calls.call_function_entry kind_sorted plain_sorted entry_sorted (args_sorted1 _) (show wpAny _ _ (Builtin.«sorted» _) _ _ _ from ?_)
 unfold Builtin.«sorted»
 refine wpAny_bind (m:=checkCount "sorted" 1 1 _) (wpAny_pure (wpAny_bind (collect_list hl (wpAny_bind (wpAny_newList ?_)))))
 have z1:((s.heap.push (seqObj "list" #[] 0)).update s.heap.objs.size (Obj.mapSeq (·++vs.toArray))).objs.size=s.heap.objs.size+1:=by rw[Heap.size_update,size_push']
 generalize hH:(s.heap.push (seqObj "list" #[] 0)).update s.heap.objs.size (Obj.mapSeq (·++vs.toArray))=h1 at z1
 have hk:∀ b o,s.heap.get? b=some o→h1.get? b=some o:=fun b o e=>by
  rw[← hH,Heap.get?_update_ne _ _ _ _ (Nat.ne_of_lt (Heap.lt_size e))]
  exact Heap.get?_push_of_some _ e
 have hk2:∀ b o,s.heap.get? b=some o→(h1.push (seqObj "list" vs.toArray 0)).get? b=some o:=fun b o e=>Heap.get?_push_of_some _ (hk b o e)
 have hoL:(h1.push (seqObj "list" vs.toArray 0)).get? (s.heap.objs.size+1)=some (seqObj "list" vs.toArray 0):=by
  rw[← z1]; exact Heap.get?_push_size _ rfl
 show wpAny _ _ _ _ _ { s with heap:=h1.push (seqObj "list" vs.toArray 0) }
 rw[z1]
 refine wpAny_bind (wpAny_holding (wpAny_call_entry slot_list_sort ⟨_,hoL,rfl⟩ entry_list_sort (sort_pairs (s:={ s with heap:=h1.push (seqObj "list" vs.toArray 0) }) hoL (fun v hv=>((pr v hv).to fun b o e _=>hk2 b o e).1) hz fun out o1 o2=>⟨_,rfl,?_⟩) (args_list_sort _)))
 refine wpAny_pure ⟨_,rfl,?_⟩
 have g:=h out o1 (o2.like fun v hv=>((pr v (o1.mem_iff.mp hv)).to fun b o e _=>hk2 b o e).2.symm)
 unfold sortedAll at g
 rw[hH]at g
 exact g
end
end TS
end
section
namespace MS
open PySem PySem.Spec PyProof.Rows L2
open M (D Cell Store Sl)
section
variable {X:Cx}
section
variable {pins:List (Addr×Obj)}{σ:L2.St}{H:Hp}{s:Shared}{m:List Addr}
theorem ans_of(I:Inv X pins σ H s)(A:Around)(hu:A.units+9<cLine){d0:D}{x0:V}{u0:Value}(f0:M.flat 9 d0=true)(h0:IsD X.K m H d0 x0)(r0:RelV x0 u0):
  ∃ e:Value→Bool,∀ (ds:List D) (xs:List V) (its:List Value),M.flats 9 ds=true→IsDs X.K m H ds xs→Vals xs its→(∀ w∈its,SeqAt.EqAt A s w u0 (e w))∧its.any e=ds.any fun y=>M.eqT y d0:=by
 classical
 refine⟨fun w=>decide (∃ d x,M.flat 9 d=true∧IsD X.K m H d x∧RelV x w∧M.eqT d d0=true),fun ds=>?_⟩
 have key:∀ d x w,M.flat 9 d=true→IsD X.K m H d x→RelV x w→decide (∃ d x,M.flat 9 d=true∧IsD X.K m H d x∧RelV x w∧M.eqT d d0=true)=M.eqT d d0:=by
  intro d x w f i r
  cases q:M.eqT d d0 with
  |true=>exact decide_eq_true ⟨d,x,f,i,r,q⟩
  |false=>
   refine decide_eq_false ?_
   rintro⟨d',x',f',i',r',q'⟩
   have e1:=r.inj r'
   subst e1
   have e2:=isD_inj I 9 d d' x f f' i i'
   subst e2
   rw[q]at q'
   cases q'
 induction ds with
 |nil=>
  intro xs its _ ix r
  rw[ix.nil]at r
  cases r
  exact⟨fun w hw=>(by cases hw),rfl⟩
 |cons d ds ih=>
  intro xs its f ix r
  obtain⟨x,xr,rfl,q,t⟩:=ix.cons
  simp only[M.flats,Bool.and_eq_true]at f
  cases r with
  |@cons _ u _ us r1 r2=>
   obtain⟨a1,a2⟩:=ih xr us f.2 t r2
   refine⟨fun w hw=>?_,?_⟩
   ·rcases List.mem_cons.mp hw with z|z
    ·subst z
     show SeqAt.EqAt A s w u0 (decide _)
     rw[key d x w f.1 q r1]
     exact(eqAt_D I 9 A d d0 x x0 w u0 hu f.1 f0 q h0 r1 r0).1
    ·exact a1 w z
   ·rw[List.any_cons,List.any_cons,a2]
    congr 1
    exact key d x u f.1 q r1
end
theorem items_eq{pins:List (Addr×Obj)}{σ:L2.St}{H:Hp}{s:Shared}{m:List Addr}(I:Inv X pins σ H s)(A:Around)(n:Nat)(hu:A.units+n<cLine){ds es:List D}{xs ys:List V}{its its2:List Value}(f:M.flats n ds=true)(fe:M.flats n es=true)(ix:IsDs X.K m H ds xs)(iy:IsDs X.K m H es ys)(r1:Vals xs its)(r2:Vals ys its2)
  (j:Nat) (h1:j<its.toArray.size) (h2:j<its2.toArray.size):SeqAt.EqAt A s its.toArray[j] its2.toArray[j] (pairE ds es j):=by
 have l1:=ix.length
 have l2:=iy.length
 have l3:=r1.length
 have l4:=r2.length
 rw[List.size_toArray]at h1 h2
 have j1:j<ds.length:=by omega
 have j2:j<es.length:=by omega
 have g1:ds[j]?=some ds[j]:=by simp
 have g2:es[j]?=some es[j]:=by simp
 obtain⟨x1,k1,q1⟩:=ix.get g1
 obtain⟨x2,k2,q2⟩:=iy.get g2
 obtain⟨u1,w1,z1⟩:=r1.get k1
 obtain⟨u2,w2,z2⟩:=r2.get k2
 have this:=(eqAt_D I n A ds[j] es[j] x1 x2 u1 u2 hu (flats_get f g1) (flats_get fe g2) q1 q2 z1 z2).1
 have e1:its.toArray[j]=u1:=by
  have:its[j]?=some its[j]:=by simp
  rw[w1]at this
  simpa using (Option.some.inj this).symm
 have e2:its2.toArray[j]=u2:=by
  have:its2[j]?=some its2[j]:=by simp
  rw[w2]at this
  simpa using (Option.some.inj this).symm
 rw[e1,e2]
 have e3:pairE ds es j=M.eqT ds[j] es[j]:=by
  unfold pairE
  rw[g1,g2]
 rw[e3]
 exact this
theorem op_inD(hu:X.A.units+64<cLine):OpR X (compareOp .In) (rD X.K fun st a b=>(M.inD st a b).map fun k=>(.bl k,st)):=by
 intro pins s σ H x y v u Q I rx ry h
 refine h.el fun m st a b d st' R0 i1 i2 e q=>?_
 obtain⟨k,e1,e2⟩:=mapD e
 cases e2
 have hu1:X.A.in1.units+9<cLine:=by have hz:X.A.in1.units=X.A.units+1:=rfl; omega
 cases b with
 |tup ds=>
  simp only[M.inD]at e1
  split at e1
  ·rename_i hf
   cases e1
   rw[Bool.and_eq_true]at hf
   obtain⟨p,xs,its,rfl,hq,ix,r,pl⟩:=isD_tuple I i2
   cases ry
   obtain⟨ef,ha⟩:=ans_of I X.A.in1 hu1 hf.1 i1 rx
   obtain⟨h1,h2⟩:=ha ds xs its hf.2 ix r
   refine SeqAt.in_tupleAt ef pl (fun w hw=>h1 w (by simpa using hw)) ⟨.bl _,H,I,rfl,?_⟩
   rw[show its.toArray.any ef=its.any ef by simp,h2]
   exact q.here R0 (mkBl _)
  ·cases e1
 |loc l=>
  simp only[M.inD]at e1
  obtain⟨ds,e2,e1⟩:=bindO e1
  split at e1
  ·rename_i hf
   cases e1
   rw[Bool.and_eq_true]at hf
   obtain⟨p,xs,_,rfl,hq,ix⟩:=R0.seq e2 i2
   cases ry
   obtain⟨its,r,pl,_⟩:=I.list hq
   obtain⟨ef,ha⟩:=ans_of I X.A.in1 hu1 hf.1 i1 rx
   obtain⟨h1,h2⟩:=ha ds xs its hf.2 ix r
   refine SeqAt.in_listAt ef pl.isList (fun w hw=>h1 w (by simpa using hw)) ⟨.bl _,H,I,rfl,?_⟩
   rw[show its.toArray.any ef=its.any ef by simp,h2]
   exact q.here R0 (mkBl _)
  ·cases e1
 |lst l=>
  simp only[M.inD]at e1
  obtain⟨ds,e2,e1⟩:=bindO e1
  split at e1
  ·rename_i hf
   cases e1
   rw[Bool.and_eq_true]at hf
   obtain⟨p,xs,_,rfl,hq,ix⟩:=R0.seq e2 i2
   cases ry
   obtain⟨its,r,pl,_⟩:=I.list hq
   obtain⟨ef,ha⟩:=ans_of I X.A.in1 hu1 hf.1 i1 rx
   obtain⟨h1,h2⟩:=ha ds xs its hf.2 ix r
   refine SeqAt.in_listAt ef pl.isList (fun w hw=>h1 w (by simpa using hw)) ⟨.bl _,H,I,rfl,?_⟩
   rw[show its.toArray.any ef=its.any ef by simp,h2]
   exact q.here R0 (mkBl _)
  ·cases e1
 |str z=>
  simp only[M.inD]at e1
  cases a with
  |str y0=>
   obtain⟨c,e3,e4⟩:=mapD e1
   have hy:=oneOf_eq e3
   subst hy
   subst e4
   refine op_in_str pins s σ H x y v u Q I rx ry ⟨_,_,i1.str,i2.str,?_⟩
   rw[PySem.StrLaws.found_one]
   exact q.here R0 (mkBl _)
  |_=>cases e1
 |_=>simp[M.inD,M.seqAt]at e1
theorem op_notInD(hu:X.A.units+64<cLine):OpR X (compareOp .NotIn) (rD X.K fun st a b=>((M.inD st a b).map (!·)).map fun k=>(.bl k,st)):=by
 intro pins s σ H x y v u Q I rx ry h
 refine h.el fun m st a b d st' R0 i1 i2 e q=>?_
 obtain⟨k0,e0,e2⟩:=mapD e
 cases e2
 obtain⟨k,e1,e3⟩:=mapD e0
 subst e3
 have hu1:X.A.in1.units+9<cLine:=by have hz:X.A.in1.units=X.A.units+1:=rfl; omega
 cases b with
 |tup ds=>
  simp only[M.inD]at e1
  split at e1
  ·rename_i hf
   cases e1
   rw[Bool.and_eq_true]at hf
   obtain⟨p,xs,its,rfl,hq,ix,r,pl⟩:=isD_tuple I i2
   cases ry
   obtain⟨ef,ha⟩:=ans_of I X.A.in1 hu1 hf.1 i1 rx
   obtain⟨h1,h2⟩:=ha ds xs its hf.2 ix r
   refine SeqAt.notIn_tupleAt ef pl (fun w hw=>h1 w (by simpa using hw)) ⟨.bl _,H,I,rfl,?_⟩
   rw[show its.toArray.any ef=its.any ef by simp,h2]
   exact q.here R0 (mkBl _)
  ·cases e1
 |loc l=>
  simp only[M.inD]at e1
  obtain⟨ds,e2,e1⟩:=bindO e1
  split at e1
  ·rename_i hf
   cases e1
   rw[Bool.and_eq_true]at hf
   obtain⟨p,xs,_,rfl,hq,ix⟩:=R0.seq e2 i2
   cases ry
   obtain⟨its,r,pl,_⟩:=I.list hq
   obtain⟨ef,ha⟩:=ans_of I X.A.in1 hu1 hf.1 i1 rx
   obtain⟨h1,h2⟩:=ha ds xs its hf.2 ix r
   refine SeqAt.notIn_listAt ef pl.isList (fun w hw=>h1 w (by simpa using hw)) ⟨.bl _,H,I,rfl,?_⟩
   rw[show its.toArray.any ef=its.any ef by simp,h2]
   exact q.here R0 (mkBl _)
  ·cases e1
 |lst l=>
  simp only[M.inD]at e1
  obtain⟨ds,e2,e1⟩:=bindO e1
  split at e1
  ·rename_i hf
   cases e1
   rw[Bool.and_eq_true]at hf
   obtain⟨p,xs,_,rfl,hq,ix⟩:=R0.seq e2 i2
   cases ry
   obtain⟨its,r,pl,_⟩:=I.list hq
   obtain⟨ef,ha⟩:=ans_of I X.A.in1 hu1 hf.1 i1 rx
   obtain⟨h1,h2⟩:=ha ds xs its hf.2 ix r
   refine SeqAt.notIn_listAt ef pl.isList (fun w hw=>h1 w (by simpa using hw)) ⟨.bl _,H,I,rfl,?_⟩
   rw[show its.toArray.any ef=its.any ef by simp,h2]
   exact q.here R0 (mkBl _)
  ·cases e1
 |str z=>
  simp only[M.inD]at e1
  cases a with
  |str y0=>
   obtain⟨c,e3,e4⟩:=mapD e1
   have hy:=oneOf_eq e3
   subst hy
   subst e4
   refine op_notin_str pins s σ H x y v u Q I rx ry ⟨_,_,i1.str,i2.str,?_⟩
   rw[PySem.StrLaws.found_one]
   exact q.here R0 (mkBl _)
  |_=>cases e1
 |_=>simp[M.inD,M.seqAt]at e1
theorem op_eqD(hu:X.A.units+64<cLine):OpR X (compareOp .Eq) (rD X.K fun st a b=>(M.eqD st a b).map fun k=>(.bl k,st)):=by
 intro pins s σ H x y v u Q I rx ry h
 refine h.el fun m st a b d st' R0 i1 i2 e q=>?_
 obtain⟨k,e1,e2⟩:=mapD e
 cases e2
 have e1:M.eqD st a b=some k:=e1
 unfold M.eqD at e1
 split at e1
 ·rename_i ds es g1 g2
  split at e1
  ·rename_i hf
   cases e1
   rw[Bool.and_eq_true]at hf
   obtain⟨p,xs,_,rfl,hq,ix⟩:=R0.seq g1 i1
   obtain⟨p',ys,_,rfl,hq',iy⟩:=R0.seq g2 i2
   cases rx
   cases ry
   obtain⟨its,r1,pl,_⟩:=I.list hq
   obtain⟨its2,r2,pl2,_⟩:=I.list hq'
   have l1:=ix.length
   have l2:=iy.length
   have l3:=r1.length
   have l4:=r2.length
   by_cases hsz:its.toArray.size=its2.toArray.size
   ·refine SeqAt.RcAt.lists (e:=pairE ds es) pl.isList pl2.isList hsz (by omega) (fun j h1 h2=>?_) _ _ _ _ ⟨.bl _,H,I,rfl,?_⟩
    ·rw[List.size_toArray]at h1 h2
     have j1:j<ds.length:=by omega
     have j2:j<es.length:=by omega
     have g1:ds[j]?=some ds[j]:=by simp
     have g2:es[j]?=some es[j]:=by simp
     obtain⟨x1,k1,q1⟩:=ix.get g1
     obtain⟨x2,k2,q2⟩:=iy.get g2
     obtain⟨u1,w1,z1⟩:=r1.get k1
     obtain⟨u2,w2,z2⟩:=r2.get k2
     have this:=(eqAt_D I 9 X.A.in1 ds[j] es[j] x1 x2 u1 u2 (by have hz:X.A.in1.units=X.A.units+1:=rfl; omega) (flats_get hf.1 g1) (flats_get hf.2 g2) q1 q2 z1 z2).1
     have e1:its.toArray[j]=u1:=by
      have:its[j]?=some its[j]:=by simp
      rw[w1]at this
      simpa using (Option.some.inj this).symm
     have e2:its2.toArray[j]=u2:=by
      have:its2[j]?=some its2[j]:=by simp
      rw[w2]at this
      simpa using (Option.some.inj this).symm
     rw[e1,e2]
     have e3:pairE ds es j=M.eqT ds[j] es[j]:=by
      unfold pairE
      rw[g1,g2]
     rw[e3]
     exact this
    ·rw[List.size_toArray,List.size_toArray]at hsz
     have e5:(List.range its.toArray.size).all (pairE ds es)=M.eqTs ds es:=by
      rw[eqTs_same (by omega),List.size_toArray,← l3,← l1]
     rw[e5]
     exact q.here R0 (mkBl _)
   ·rw[List.size_toArray,List.size_toArray]at hsz
    have e5:M.eqTs ds es=false:=by
     rw[eqTs_pair]
     have:(ds.length==es.length)=false:=by simp; omega
     rw[this,Bool.and_false]
    rw[e5]at q
    refine SeqAt.RcAt.lists_lengths pl.isList pl2.isList (by simpa using hsz) (by omega) _ _ _ _ ⟨.bl _,H,I,rfl,q.here R0 (mkBl _)⟩
  ·cases e1
 ·split at e1
  ·rename_i hf
   cases e1
   rw[Bool.and_eq_true]at hf
   exact(eqAt_D I 9 X.A a b x y v u (by omega) hf.1 hf.2 i1 i2 rx ry).2 _ _ _ _ ⟨.bl _,H,I,rfl,q.here R0 (mkBl _)⟩
  ·cases e1
theorem neAt_D{pins:List (Addr×Obj)}{σ:L2.St}{H:Hp}{s:Shared}{m:List Addr}(I:Inv X pins σ H s)(A:Around)(d e:D)(x y:V)(u v:Value)(hu:A.units+10<cLine)(f:M.flat 9 d=true)(fe:M.flat 9 e=true)(hx:IsD X.K m H d x)(hy:IsD X.K m H e y)(rx:RelV x u)(ry:RelV y v):
  SeqAt.RcNeAt A s u v (!M.eqT d e):=by
 have hu0:A.units<cLine:=by omega
 cases d with
 |loc _=>simp[M.flat]at f
 |lst _=>simp[M.flat]at f
 |non=>
  cases hx.non; cases rx
  cases e with
  |loc _=>simp[M.flat]at fe
  |lst _=>simp[M.flat]at fe
  |tup es=>obtain⟨b,ys,its2,rfl,hq2,iy,r2,p2⟩:=isD_tuple I hy; cases ry; exact SeqAt.RcNeAt.none_tuple p2 hu0
  |non=>cases hy.non; cases ry; exact SeqAt.RcNeAt.none_none
  |bl b=>cases hy.bl; cases ry; exact SeqAt.RcNeAt.none_bool b
  |int b=>cases hy.int; obtain⟨t,rfl⟩:=ry; exact SeqAt.RcNeAt.none_int b t
  |str b=>cases hy.str; obtain⟨t,rfl⟩:=ry; exact SeqAt.RcNeAt.none_str b t
 |bl a=>
  cases hx.bl; cases rx
  cases e with
  |loc _=>simp[M.flat]at fe
  |lst _=>simp[M.flat]at fe
  |tup es=>obtain⟨b,ys,its2,rfl,hq2,iy,r2,p2⟩:=isD_tuple I hy; cases ry; exact SeqAt.RcNeAt.bool_tuple a p2 hu0
  |non=>cases hy.non; cases ry; exact SeqAt.RcNeAt.bool_none a
  |bl b=>cases hy.bl; cases ry; exact SeqAt.RcNeAt.bool_bool a b
  |int b=>cases hy.int; obtain⟨t,rfl⟩:=ry; exact SeqAt.RcNeAt.bool_int a b t
  |str b=>cases hy.str; obtain⟨t,rfl⟩:=ry; exact SeqAt.RcNeAt.bool_str a b t
 |int a=>
  cases hx.int; obtain⟨t',rfl⟩:=rx
  cases e with
  |loc _=>simp[M.flat]at fe
  |lst _=>simp[M.flat]at fe
  |tup es=>obtain⟨b,ys,its2,rfl,hq2,iy,r2,p2⟩:=isD_tuple I hy; cases ry; exact SeqAt.RcNeAt.int_tuple a t' p2 hu0
  |non=>cases hy.non; cases ry; exact SeqAt.RcNeAt.int_none a t'
  |bl b=>cases hy.bl; cases ry; exact SeqAt.RcNeAt.int_bool a t' b
  |int b=>cases hy.int; obtain⟨t,rfl⟩:=ry; exact SeqAt.RcNeAt.int_int a t' b t
  |str b=>cases hy.str; obtain⟨t,rfl⟩:=ry; exact SeqAt.RcNeAt.int_str a t' b t
 |str a=>
  cases hx.str; obtain⟨t',rfl⟩:=rx
  cases e with
  |loc _=>simp[M.flat]at fe
  |lst _=>simp[M.flat]at fe
  |tup es=>obtain⟨b,ys,its2,rfl,hq2,iy,r2,p2⟩:=isD_tuple I hy; cases ry; exact SeqAt.RcNeAt.str_tuple a t' p2 hu0
  |non=>cases hy.non; cases ry; exact SeqAt.RcNeAt.str_none a t'
  |bl b=>cases hy.bl; cases ry; exact SeqAt.RcNeAt.str_bool a t' b
  |int b=>cases hy.int; obtain⟨t,rfl⟩:=ry; exact SeqAt.RcNeAt.str_int a t' b t
  |str b=>cases hy.str; obtain⟨t,rfl⟩:=ry; exact SeqAt.RcNeAt.str_str a t' b t
 |tup ds=>
  obtain⟨a,xs,its,rfl,hq,ix,r1,p1⟩:=isD_tuple I hx
  cases rx
  cases e with
  |loc _=>simp[M.flat]at fe
  |lst _=>simp[M.flat]at fe
  |non=>cases hy.non; cases ry; exact SeqAt.RcNeAt.tuple_none p1 hu0
  |bl b=>cases hy.bl; cases ry; exact SeqAt.RcNeAt.tuple_bool b p1 hu0
  |int b=>cases hy.int; obtain⟨t,rfl⟩:=ry; exact SeqAt.RcNeAt.tuple_int b t p1 hu0
  |str b=>cases hy.str; obtain⟨t,rfl⟩:=ry; exact SeqAt.RcNeAt.tuple_str b t p1 hu0
  |tup es=>
   obtain⟨b,ys,its2,rfl,hq2,iy,r2,p2⟩:=isD_tuple I hy
   cases ry
   have l1:=ix.length
   have l2:=iy.length
   have l3:=r1.length
   have l4:=r2.length
   simp only[M.flat]at f fe
   have he:∀ j (h1:j<its.toArray.size) (h2:j<its2.toArray.size),SeqAt.EqAt A.in1 s its.toArray[j] its2.toArray[j] (pairE ds es j):=fun j h1 h2=>items_eq I A.in1 8 (by have hz:A.in1.units=A.units+1:=rfl; omega) f fe ix iy r1 r2 j h1 h2
   have:=SeqAt.RcNeAt.tuples p1 p2 hu0 he
   simp only[M.eqT]
   rw[eqTs_pair,l1,l2,l3,l4]
   simpa using this
theorem op_neD(hu:X.A.units+64<cLine):OpR X (compareOp .NotEq) (rD X.K fun st a b=>(M.neD st a b).map fun k=>(.bl k,st)):=by
 intro pins s σ H x y v u Q I rx ry h
 obtain⟨m,st,a,b,d,st',R0,i1,i2,e,q⟩:=h
 obtain⟨k0,e0,e2⟩:=mapD e
 cases e2
 obtain⟨k,e1,e3⟩:=mapD e0
 subst e3
 have e1:M.eqD st a b=some k:=e1
 unfold M.eqD at e1
 split at e1
 ·rename_i ds es g1 g2
  split at e1
  ·rename_i hf
   cases e1
   rw[Bool.and_eq_true]at hf
   obtain⟨p,xs,_,rfl,hq,ix⟩:=R0.seq g1 i1
   obtain⟨p',ys,_,rfl,hq',iy⟩:=R0.seq g2 i2
   cases rx
   cases ry
   obtain⟨its,r1,pl,_⟩:=I.list hq
   obtain⟨its2,r2,pl2,_⟩:=I.list hq'
   have l1:=ix.length
   have l2:=iy.length
   have l3:=r1.length
   have l4:=r2.length
   by_cases hsz:its.toArray.size=its2.toArray.size
   ·refine SeqAt.RcNeAt.lists (e:=pairE ds es) pl.isList pl2.isList hsz (by omega) (fun j h1 h2=>items_eq I X.A.in1 9 (by have hz:X.A.in1.units=X.A.units+1:=rfl; omega) hf.1 hf.2 ix iy r1 r2 j h1 h2) _ _ _ _ ⟨.bl _,H,I,rfl,?_⟩
    rw[List.size_toArray,List.size_toArray]at hsz
    have e5:(List.range its.toArray.size).all (pairE ds es)=M.eqTs ds es:=by
     rw[eqTs_same (by omega),List.size_toArray,← l3,← l1]
    rw[e5]
    exact q.here R0 (mkBl _)
   ·rw[List.size_toArray,List.size_toArray]at hsz
    have e5:M.eqTs ds es=false:=by
     rw[eqTs_pair]
     have:(ds.length==es.length)=false:=by simp; omega
     rw[this,Bool.and_false]
    rw[e5]at q
    refine SeqAt.RcNeAt.lists_lengths pl.isList pl2.isList (by simpa using hsz) (by omega) _ _ _ _ ⟨.bl _,H,I,rfl,q.here R0 (mkBl _)⟩
  ·cases e1
 ·split at e1
  ·rename_i hf
   cases e1
   rw[Bool.and_eq_true]at hf
   exact neAt_D I X.A a b x y v u (by omega) hf.1 hf.2 i1 i2 rx ry _ _ _ _ ⟨.bl _,H,I,rfl,q.here R0 (mkBl _)⟩
  ·cases e1
theorem isNon_of{K:PySem.W.Frag}{m:List Addr}{H:Hp}{d:D}{x:V}(h:IsD K m H d x):decide (x=.non)=M.isNon d:=by
 cases d with
 |non=>rw[h.non]; rfl
 |bl b=>rw[h.bl]; rfl
 |int b=>rw[h.int]; rfl
 |str b=>rw[h.str]; rfl
 |tup ds=>obtain⟨a,xs,rfl,_⟩:=h.tup; rfl
 |loc l=>obtain⟨a,_,rfl⟩:=h.loc; rfl
 |lst l=>obtain⟨a,xs,rfl,_⟩:=h.lst; rfl
theorem op_cmpD(hu:X.A.units+64<cLine)(op:CmpOp):OpR X (compareOp op) (rD X.K fun st a b=>(M.cmpD st op a b).map fun k=>(.bl k,st)):=by
 intro pins s σ H x y v u Q I rx ry h
 obtain⟨m,st,a,b,d,st',R0,i1,i2,e,q⟩:=h
 obtain⟨k,e1,e2⟩:=mapD e
 cases e2
 have e1:M.cmpD st op a b=some k:=e1
 unfold M.cmpD at e1
 split at e1
 ·cases e1
  exact op_lt pins s σ H x y v u Q I rx ry ⟨_,_,i1.int,i2.int,q.here R0 (mkBl _)⟩
 ·cases e1
  exact op_le pins s σ H x y v u Q I rx ry ⟨_,_,i1.int,i2.int,q.here R0 (mkBl _)⟩
 ·cases e1
  exact op_gt pins s σ H x y v u Q I rx ry ⟨_,_,i1.int,i2.int,q.here R0 (mkBl _)⟩
 ·cases e1
  exact op_ge pins s σ H x y v u Q I rx ry ⟨_,_,i1.int,i2.int,q.here R0 (mkBl _)⟩
 ·exact op_eqD hu pins s σ H x y v u Q I rx ry ⟨m,st,a,b,_,_,R0,i1,i2,by dsimp only; rw[e1]; rfl,q⟩
 ·exact op_neD hu pins s σ H x y v u Q I rx ry ⟨m,st,a,b,_,_,R0,i1,i2,by dsimp only; rw[e1]; rfl,q⟩
 ·cases e1
  refine op_isN pins s σ H x y v u Q I rx ry ⟨i2.non,?_⟩
  rw[isNon_of i1]
  exact q.here R0 (mkBl _)
 ·cases e1
  refine op_notN pins s σ H x y v u Q I rx ry ⟨i2.non,?_⟩
  rw[isNon_of i1]
  exact q.here R0 (mkBl _)
 ·exact op_inD hu pins s σ H x y v u Q I rx ry ⟨m,st,a,b,_,_,R0,i1,i2,by dsimp only; rw[e1]; rfl,q⟩
 ·exact op_notInD hu pins s σ H x y v u Q I rx ry ⟨m,st,a,b,_,_,R0,i1,i2,by dsimp only; rw[e1]; rfl,q⟩
 ·cases e1
theorem truV_of{K:PySem.W.Frag}{m:List Addr}{st:Store}{H:Hp}{d:D}{x:V}{k:Bool}(R0:Rel K m st H)(h:IsD K m H d x)(e:M.truth st d=some k):TruV K x H k:=by
 cases d with
 |non=>rw[h.non]; simp only[M.truth]at e; exact(Option.some.inj e).symm
 |bl b=>rw[h.bl]; simp only[M.truth]at e; exact(Option.some.inj e).symm
 |int b=>rw[h.int]; simp only[M.truth]at e; exact(Option.some.inj e).symm
 |str b=>
  rw[h.str]
  simp only[M.truth]at e
  split at e
  ·cases e
  ·have l3:=lim_eq
   exact⟨by omega,(Option.some.inj e).symm⟩
 |tup ds=>
  obtain⟨a,xs,rfl,hq,ix⟩:=h.tup
  simp only[M.truth]at e
  refine .inr (.inl ⟨xs,hq,?_⟩)
  have:=ix.length
  cases e
  cases ds<;>cases xs<;>simp_all
 |loc l=>
  simp only[M.truth]at e
  obtain⟨ds,e1,e2⟩:=mapD e
  obtain⟨a,xs,_,rfl,hq,ix⟩:=R0.seq e1 h
  refine .inl ⟨xs,hq,?_⟩
  have:=ix.length
  subst e2
  cases ds<;>cases xs<;>simp_all
 |lst l=>
  simp only[M.truth]at e
  obtain⟨ds,e1,e2⟩:=mapD e
  obtain⟨a,xs,_,rfl,hq,ix⟩:=R0.seq e1 h
  refine .inl ⟨xs,hq,?_⟩
  have:=ix.length
  subst e2
  cases ds<;>cases xs<;>simp_all
theorem atI_of{K:PySem.W.Frag}{m:List Addr}{H:Hp}{ds:List D}{xs:List V}{i:Int}{d:D}(ix:IsDs K m H ds xs)(e:M.atI ds i=some d):∃ x,L2.atI xs i=some x∧IsD K m H d x:=by
 unfold M.atI at e
 obtain⟨j,e1,e2⟩:=bindO e
 obtain⟨x,e3,q⟩:=ix.get e2
 refine⟨x,?_,q⟩
 unfold L2.atI
 have e4:L2.ixN xs.length i=some j:=by rw[← ix.length]; exact e1
 rw[e4]
 exact e3
theorem ix_D:IxR X (rD X.K fun st a b=>(M.idxD st a b).map fun d=>(d,st)):=by
 intro value slice pins s σ H x y v u Q I rx ry h hs
 obtain⟨m,st,a,b,d,st',R0,i1,i2,e,q⟩:=h
 obtain⟨k,e1,e2⟩:=mapD e
 cases e2
 have e1:M.idxD st a b=some d:=e1
 unfold M.idxD at e1
 split at e1
 ·obtain⟨p,xs,rfl,hq,ix⟩:=i1.tup
  obtain⟨w,e3,iw⟩:=atI_of ix e1
  exact ix_tup value slice pins s σ H _ _ v u Q I rx ry ⟨p,xs,_,w,rfl,i2.int,hq,e3,q.here R0 iw⟩ hs
 ·split at e1
  ·cases e1
  ·obtain⟨c,e3,e4⟩:=mapD e1
   subst e4
   have l3:=lim_eq
   exact ix_str value slice pins s σ H _ _ v u Q I rx ry ⟨_,_,c,i1.str,i2.int,by omega,e3,q.here R0 (mkStr _)⟩ hs
 ·obtain⟨ds,e2,e1⟩:=bindO e1
  obtain⟨p,xs,_,rfl,hq,ix⟩:=R0.seq e2 i1
  obtain⟨w,e3,iw⟩:=atI_of ix e1
  exact ix_list value slice pins s σ H _ _ v u Q I rx ry ⟨p,xs,_,w,rfl,i2.int,hq,e3,q.here R0 iw⟩ hs
 ·cases e1
def rSetD(K:PySem.W.Frag):V→V→V→Hp→(Hp→Prop)→Prop:=fun o i v H Q=>∃ m st a b c st',Rel K m st H∧IsD K m H a o∧IsD K m H b i∧IsD K m H c v∧M.setIxD st a b c=some st'∧
 ∀ m' H',Sub m m'→Tr H H'→Rel K m' st' H'→Q H'
theorem set_D:PSet X (rSetD X.K):=by
 intro pins s σ H o i v ov iv u Q I ro ri rv h
 obtain⟨m,st,a,b,c,st',R0,i1,i2,i3,e,q⟩:=h
 unfold M.setIxD at e
 split at e
 ·obtain⟨ds,e1,e⟩:=bindO e
  obtain⟨j,e2,e3⟩:=mapD e
  subst e3
  obtain⟨p,xs,hm,rfl,hp,ix,hs⟩:=R0.wlist e1 i1
  refine set_list pins s σ H _ _ _ ov iv u Q I ro ri rv ⟨p,xs,_,j,rfl,i2.int,hp,by rw[← ix.length]; exact e2,?_⟩
  exact q m _ (Sub.refl m) (Tr.put hp) (R0.put hs hm hp (ix.set j i3))
 ·cases e
theorem mt_appendD:MtM X "list.append" (fun x xs H Q=>∃ m st a ds d st',Rel X.K m st H∧IsD X.K m H a x∧IsDs X.K m H ds xs∧M.mAppend st a ds=some (d,st')∧Post X.K m H d st' Q):=by
 intro pins s σ H x xs v us Q I rx rs h
 obtain⟨m,st,a,ds,d,st',R0,i1,i2,e,q⟩:=h
 unfold M.mAppend at e
 split at e
 ·obtain⟨ds0,e1,e⟩:=bindO e
  split at e
  ·rename_i hl
   cases e
   obtain⟨p,ys,hm,rfl,hp,ix,hs⟩:=R0.wlist e1 i1
   obtain⟨y,rfl,iy⟩:=i2.one
   have l1:=ix.length
   have l2:=lim_eq
   refine mt_append pins s σ H _ _ v us Q I rx rs ⟨p,ys,y,rfl,rfl,hp,by omega,?_⟩
   exact q _ m _ (Sub.refl m) (Tr.put hp) (R0.put hs hm hp (ix.append (mkCons iy mkNil))) mkNon
  ·cases e
 ·cases e
theorem _root_.MS.IsDs.take{K:PySem.W.Frag}{m:List Addr}{H:Hp}:∀ {ds:List D}{xs:List V}(n:Nat),IsDs K m H ds xs→IsDs K m H (ds.take n) (xs.take n)
 |_,_,0,_=>by simp only[List.take_zero]; exact mkNil
 |[],_,n+1,h=>by rw[h.nil]; simp only[List.take_nil]; exact mkNil
 |d::ds,_,n+1,h=>by
  obtain⟨x,r,rfl,q,t⟩:=h.cons
  simp only[List.take_succ_cons]
  exact mkCons q (IsDs.take n t)
theorem _root_.MS.IsDs.drop{K:PySem.W.Frag}{m:List Addr}{H:Hp}:∀ {ds:List D}{xs:List V}(n:Nat),IsDs K m H ds xs→IsDs K m H (ds.drop n) (xs.drop n)
 |_,_,0,h=>by simp only[List.drop_zero]; exact h
 |[],_,n+1,h=>by rw[h.nil]; simp only[List.drop_nil]; exact mkNil
 |d::ds,_,n+1,h=>by
  obtain⟨x,r,rfl,q,t⟩:=h.cons
  simp only[List.drop_succ_cons]
  exact IsDs.drop n t
theorem call_lenD:CallR X (.builtin "len") (rC X.K M.bLen):=by
 intro pins s σ H xs us Q I r h
 refine h.el fun m st ds d st' R0 ix e q=>?_
 unfold M.bLen at e
 split at e
 ·cases e
  obtain⟨x,rfl,i⟩:=ix.one
  obtain⟨p,ys,rfl,hq,iy⟩:=i.tup
  refine call_len_seq pins s σ H _ us Q I r ⟨p,ys,rfl,.inr hq,?_⟩
  rw[← iy.length]
  exact q.here R0 (mkInt _)
 ·split at e
  ·cases e
  ·cases e
   obtain⟨x,rfl,i⟩:=ix.one
   have l3:=lim_eq
   cases i.str
   exact call_len_str pins s σ H _ us Q I r ⟨_,rfl,by omega,q.here R0 (mkInt _)⟩
 ·obtain⟨ds',e1,e2⟩:=mapD e
  cases e2
  obtain⟨x,rfl,i⟩:=ix.one
  obtain⟨p,ys,_,rfl,hq,iy⟩:=R0.seq e1 i
  refine call_len_seq pins s σ H _ us Q I r ⟨p,ys,rfl,.inl hq,?_⟩
  rw[← iy.length]
  exact q.here R0 (mkInt _)
 ·cases e
theorem call_minD(hc:X.calm=true):CallR X (.builtin "min") (rC X.K M.bMin):=by
 intro pins s σ H xs us Q I r h
 refine h.el fun m st ds d st' R0 ix e q=>?_
 unfold M.bMin at e
 split at e
 ·cases e
  obtain⟨x,y,rfl,i,j⟩:=ix.two
  cases i.int; cases j.int
  exact call_min2 hc pins s σ H _ us Q I r ⟨_,_,rfl,q.here R0 (mkInt _)⟩
 ·cases e
theorem call_maxD(hc:X.calm=true):CallR X (.builtin "max") (rC X.K M.bMax):=by
 intro pins s σ H xs us Q I r h
 refine h.el fun m st ds d st' R0 ix e q=>?_
 unfold M.bMax at e
 split at e
 ·cases e
  obtain⟨x,y,rfl,i,j⟩:=ix.two
  cases i.int; cases j.int
  exact call_max2 hc pins s σ H _ us Q I r ⟨_,_,rfl,q.here R0 (mkInt _)⟩
 ·cases e
theorem call_tupleD:CallR X (.type "tuple") (rC X.K M.bTuple):=by
 intro pins s σ H xs us Q I r h
 refine h.el fun m st ds d st' R0 ix e q=>?_
 unfold M.bTuple at e
 split at e
 ·cases e
  obtain⟨x,rfl,i⟩:=ix.one
  obtain⟨p,ys,rfl,hq,iy⟩:=i.tup
  exact call_tuple_of pins s σ H _ us Q I r ⟨p,ys,rfl,.inr ⟨hq,q.here R0 (mkTup hq iy)⟩⟩
 ·obtain⟨ds',e1,e2⟩:=mapD e
  cases e2
  obtain⟨x,rfl,i⟩:=ix.one
  obtain⟨p,ys,_,rfl,hq,iy⟩:=R0.seq e1 i
  refine call_tuple_of pins s σ H _ us Q I r ⟨p,ys,rfl,.inl ⟨hq,fun l hl=>?_⟩⟩
  have sm:=same_new (o:=.tup ys) hl
  exact q _ m _ (Sub.refl m) (Tr.of_same sm) (R0.same sm) (mkTup (SqT.of upd_same) (isDs_mono (Sub.refl m) (Tr.of_same sm) _ _ iy))
 ·cases e
theorem call_listD:CallR X (.type "list") (rC X.K M.bList):=by
 intro pins s σ H xs us Q I r h
 refine h.el fun m st ds d st' R0 ix e q=>?_
 unfold M.bList at e
 split at e
 ·cases e
  obtain⟨x,rfl,i⟩:=ix.one
  obtain⟨p,ys,rfl,hq,iy⟩:=i.tup
  refine call_list_of pins s σ H _ us Q I r ⟨p,ys,rfl,.inr hq,fun l hl=>?_⟩
  exact q _ (m++[l]) _ (Sub.app m [l]) (Tr.of_same (same_new hl)) (R0.new hl iy) R0.newLoc
 ·obtain⟨ds',e1,e2⟩:=mapD e
  cases e2
  obtain⟨x,rfl,i⟩:=ix.one
  obtain⟨p,ys,_,rfl,hq,iy⟩:=R0.seq e1 i
  refine call_list_of pins s σ H _ us Q I r ⟨p,ys,rfl,.inl hq,fun l hl=>?_⟩
  exact q _ (m++[l]) _ (Sub.app m [l]) (Tr.of_same (same_new hl)) (R0.new hl iy) R0.newLoc
 ·cases e
theorem bools_of{K:PySem.W.Frag}{m:List Addr}{H:Hp}:∀ {ds:List D}{xs:List V}{its:List Value}{bs:List Bool},M.asBools ds=some bs→IsDs K m H ds xs→Vals xs its→LSm.BoolsAre its bs
 |[],_,_,_,e,ix,r=>by
  rw[ix.nil]at r
  cases r
  cases e
  exact .nil
 |d::ds,_,_,_,e,ix,r=>by
  obtain⟨x,xr,rfl,q,t⟩:=ix.cons
  cases d with
  |bl b=>
   simp only[M.asBools]at e
   obtain⟨bs',e1,e2⟩:=mapD e
   subst e2
   cases q.bl
   cases r with
   |cons r1 r2=>
    cases r1
    exact .cons b (bools_of e1 t r2)
  |_=>simp[M.asBools]at e
theorem ints_of{K:PySem.W.Frag}{m:List Addr}{H:Hp}:∀ {ds:List D}{xs:List V}{ns:List Int},M.asInts ds=some ns→IsDs K m H ds xs→xs=ns.map V.int∧ds=ns.map D.int
 |[],_,_,e,ix=>by
  cases e
  exact⟨ix.nil,rfl⟩
 |d::ds,_,_,e,ix=>by
  obtain⟨x,xr,rfl,q,t⟩:=ix.cons
  cases d with
  |int b=>
   simp only[M.asInts]at e
   obtain⟨bs',e1,e2⟩:=mapD e
   subst e2
   cases q.int
   obtain⟨h1,h2⟩:=ints_of e1 t
   rw[h1,h2]
   exact⟨rfl,rfl⟩
  |_=>simp[M.asInts]at e
theorem call_allD(hc:X.calm=true):CallR X (.builtin "all") (rC X.K M.bAll):=by
 intro pins s σ H xs us Q I r h
 refine h.el fun m st ds d st' R0 ix e q=>?_
 unfold M.bAll at e
 split at e
 ·obtain⟨ds',e1,e⟩:=bindO e
  obtain⟨bs,e2,e3⟩:=mapD e
  cases e3
  obtain⟨x,rfl,i⟩:=ix.one
  obtain⟨p,ys,_,rfl,hq,iy⟩:=R0.seq e1 i
  obtain⟨u,rfl,ru⟩:=vals1 r
  cases ru
  obtain⟨its,rv,pl,_⟩:=I.list hq
  have hb:=bools_of e2 iy rv
  have hl:=pl.isList
  have hlt:p<s.heap.objs.size:=by obtain⟨_,e,_⟩:=id hl; exact Heap.lt_size e
  refine call_all_walk (wpAny_pyIter_list hl ?_)
  refine⟨s.heap.objs.size,[s.heap.objs.size,p],[s.heap.objs.size],its.toArray.size,_,_,fun i=>(bs[i]?).getD true,rfl,Walks.list (A:=X.A.in1) (I.ok.hd hc) _ p (Nat.ne_of_lt hlt) its.toArray,
   ⟨⟨_,Heap.get?_push_size _ rfl,rfl,rfl⟩,hl.push _⟩,fun i v s' Q' E' hP hQ=>?_,fun h' tk hk=>?_⟩
  ·obtain⟨b,e,rfl⟩:=hb.get i v (by simpa using hP)
   simp only[e,Option.getD_some]at hQ
   exact wpAny_truthy_bool hQ
  ·have e:((List.range its.toArray.size).all fun i=>(bs[i]?).getD true)=bs.all id:=by
    rw[List.size_toArray,hb.length]; exact LSm.range_all bs
   rw[e]
   exact⟨.bl _,H,I.kept (LSm.kept_iter hk),rfl,q.here R0 (mkBl _)⟩
 ·cases e
theorem insInt_perm(x:Int):∀ l:List Int,(M.insInt x l).Perm (x::l)
 |[]=>.refl _
 |y::r=>by
  unfold M.insInt
  split
  ·exact .refl _
  ·exact((insInt_perm x r).cons y).trans (.swap x y r)
theorem sortInt_perm:∀ l:List Int,(M.sortInt l).Perm l
 |[]=>.refl _
 |x::r=>by
  unfold M.sortInt
  exact(insInt_perm x _).trans ((sortInt_perm r).cons x)
theorem insInt_sorted(x:Int):∀ l:List Int,l.Pairwise (· ≤ ·)→(M.insInt x l).Pairwise (· ≤ ·)
 |[],_=>by unfold M.insInt; simp
 |y::r,h=>by
  unfold M.insInt
  split
  ·rename_i hx
   refine List.Pairwise.cons (fun z hz=>?_) h
   rcases List.mem_cons.mp hz with e|e
   ·rw[e]; exact hx
   ·exact Int.le_trans hx ((List.pairwise_cons.mp h).1 z e)
  ·rename_i hx
   have h':=List.pairwise_cons.mp h
   refine List.Pairwise.cons (fun z hz=>?_) (insInt_sorted x r h'.2)
   rcases List.mem_cons.mp ((insInt_perm x r).mem_iff.mp hz) with e|e
   ·rw[e]; omega
   ·exact h'.1 z e
theorem sortInt_sorted:∀ l:List Int,(M.sortInt l).Pairwise (· ≤ ·)
 |[]=>by unfold M.sortInt; simp
 |x::r=>by
  unfold M.sortInt
  exact insInt_sorted x _ (sortInt_sorted r)
theorem isDs_ints{K:PySem.W.Frag}{m:List Addr}{H:Hp}:∀ (ns:List Int),IsDs K m H (ns.map D.int) (ns.map V.int)
 |[]=>mkNil
 |n::r=>mkCons (mkInt n) (isDs_ints r)
theorem orO{α:Type}{a b:Option α}{r:α}(h:a.or b=some r):a=some r∨b=some r:=by
 cases a with
 |none=>exact .inr h
 |some x=>exact .inl h
theorem leP_iff{a b:Int×Int}:M.leP a b=true↔a.1<b.1∨(a.1=b.1∧a.2≤b.2):=by
 unfold M.leP
 simp only[Bool.or_eq_true,Bool.and_eq_true,decide_eq_true_eq]
theorem insP_perm(x:Int×Int):∀ l:List (Int×Int),(M.insP x l).Perm (x::l)
 |[]=>List.Perm.refl _
 |y::r=>by
  unfold M.insP
  split
  ·exact List.Perm.refl _
  ·exact((insP_perm x r).cons y).trans (List.Perm.swap x y r)
theorem sortP_perm:∀ l:List (Int×Int),(M.sortP l).Perm l
 |[]=>List.Perm.refl _
 |x::r=>(insP_perm x _).trans ((sortP_perm r).cons x)
theorem insP_up(x:Int×Int):∀ l:List (Int×Int),l.Pairwise (fun a b=>M.leP a b=true)→(M.insP x l).Pairwise (fun a b=>M.leP a b=true)
 |[],_=>List.pairwise_singleton _ _
 |y::r,h=>by
  unfold M.insP
  have h':=List.pairwise_cons.mp h
  split
  ·rename_i g
   refine List.pairwise_cons.mpr ⟨fun z hz=>?_,h⟩
   rcases List.mem_cons.mp hz with rfl|hz
   ·exact g
   ·have q:=h'.1 z hz
    rw[leP_iff]at *
    omega
  ·rename_i g
   refine List.pairwise_cons.mpr ⟨fun z hz=>?_,insP_up x r h'.2⟩
   rcases List.mem_cons.mp ((insP_perm x r).mem_iff.mp hz) with rfl|hz
   ·rw[leP_iff]at *
    omega
   ·exact h'.1 z hz
theorem sortP_up:∀ l:List (Int×Int),(M.sortP l).Pairwise (fun a b=>M.leP a b=true)
 |[]=>List.Pairwise.nil
 |x::r=>insP_up x _ (sortP_up r)
theorem kle_leP{a b:Int×Int}:TS.pO.kle a b↔M.leP a b=true:=by
 show TS.plt b a=false↔_
 rw[leP_iff,← Bool.not_eq_true,TS.plt_iff]
 omega
theorem pairs_of{K:PySem.W.Frag}{m:List Addr}{H:Hp}:∀ {ds:List D}{ys:List V}{ps:List (Int×Int)},M.asPairs ds=some ps→IsDs K m H ds ys→
  ∃ qs:List (Addr×Int×Int),qs.map (·.2)=ps∧ys=qs.map (fun q=>V.ref q.1)∧∀ q∈qs,SqT K H q.1 [V.int q.2.1,V.int q.2.2]
 |[],ys,ps,e,h=>by
  cases e
  cases h.nil
  exact⟨[],rfl,rfl,fun q hq=>nomatch hq⟩
 |d::r,ys,ps,e,h=>by
  unfold M.asPairs at e
  split at e
  ·rename_i hd
   cases hd
  ·rename_i x y r' hd
   cases hd
   obtain⟨ps',e1,e2⟩:=Option.map_eq_some_iff.mp e
   cases e2
   obtain⟨v,ys',rfl,i1,i2⟩:=h.cons
   obtain⟨qs,q1,q2,q3⟩:=pairs_of e1 i2
   obtain⟨a,xs,rfl,sq,ix⟩:=i1.tup
   obtain⟨v1,xs1,rfl,j1,ix⟩:=ix.cons
   obtain⟨v2,rfl,j2⟩:=ix.one
   cases j1.int
   cases j2.int
   refine⟨(a,x,y)::qs,by rw[List.map_cons,q1],by rw[List.map_cons,q2],fun q hq=>?_⟩
   rcases List.mem_cons.mp hq with rfl|hq
   ·exact sq
   ·exact q3 q hq
  ·cases e
theorem perm_back{α β:Type}(f:α→β):∀ {l l':List β},l.Perm l'→∀ {qs:List α},l'=qs.map f→∃ rs:List α,rs.Perm qs∧l=rs.map f:=by
 intro l l' h
 induction h with
 |nil=>
  intro qs e
  exact⟨[],by rw[List.map_eq_nil_iff.mp e.symm],rfl⟩
 |cons x _ ih=>
  intro qs e
  match qs,e with
  |q::qs,e=>
   rw[List.map_cons]at e
   cases e
   obtain⟨rs,p,e⟩:=ih rfl
   exact⟨q::rs,p.cons q,by rw[List.map_cons,e]⟩
 |swap x y l=>
  intro qs e
  match qs,e with
  |a::b::qs,e=>
   rw[List.map_cons,List.map_cons]at e
   cases e
   exact⟨b::a::qs,List.Perm.swap a b qs,rfl⟩
 |trans _ _ ih1 ih2=>
  intro qs e
  obtain⟨rs,p,e⟩:=ih2 e
  obtain⟨rs',p',e'⟩:=ih1 e
  exact⟨rs',p'.trans p,e'⟩
theorem refs_vals:∀ {qs:List (Addr×Int×Int)}{us:List Value},Vals (qs.map fun q=>V.ref q.1) us→us=qs.map fun q=>Value.ref q.1
 |[],_,.nil=>rfl
 |q::qs,_,.cons r h=>by
  cases r
  rw[refs_vals h]; rfl
theorem refs_back:∀ qs:List (Addr×Int×Int),Vals (qs.map fun q=>V.ref q.1) (qs.map fun q=>Value.ref q.1)
 |[]=>.nil
 |q::qs=>.cons rfl (refs_back qs)
theorem pairs_isDs{K:PySem.W.Frag}{m:List Addr}{H:Hp}:∀ qs:List (Addr×Int×Int),(∀ q∈qs,SqT K H q.1 [V.int q.2.1,V.int q.2.2])→IsDs K m H ((qs.map (·.2)).map M.pD) (qs.map fun q=>V.ref q.1)
 |[],_=>mkNil
 |q::qs,h=>mkCons (mkTup (h q List.mem_cons_self) (mkCons (mkInt _) (mkCons (mkInt _) mkNil))) (pairs_isDs qs fun q hq=>h q (List.mem_cons_of_mem _ hq))
theorem pr_of{X:Cx}{pins:List (Addr×Obj)}{σ:L2.St}{H:Hp}{s:Shared}(I:Inv X pins σ H s){q:Addr×Int×Int}(h:SqT X.K H q.1 [V.int q.2.1,V.int q.2.2]):TS.Pr s.heap (.ref q.1)∧TS.pk s.heap (.ref q.1)=some q.2:=by
 obtain⟨its,r,⟨o,e,c,n,d⟩,_⟩:=I.tuple h
 obtain⟨t,u,rfl⟩:∃ t u,its=[Value.int q.2.1 t,Value.int q.2.2 u]:=by
  match its,r with
  |_,.cons r1 (.cons r2 .nil)=>
   obtain⟨t,rfl⟩:=r1
   obtain⟨u,rfl⟩:=r2
   exact⟨t,u,rfl⟩
 exact⟨⟨q.1,o,_,n,q.2.1,q.2.2,t,u,rfl,e,c,d,rfl⟩,TS.pk_mk e d rfl⟩
theorem call_sortedD:CallR X (.builtin "sorted") (rC X.K M.bSorted):=by
 intro pins s σ H xs us Q I r h
 refine h.el fun m st ds d st' R0 ix e q=>?_
 unfold M.bSorted at e
 split at e
 ·obtain⟨ds',e1,e⟩:=bindO e
  rcases orO e with e|e
  rotate_left
  ·obtain⟨ps,e2,e3⟩:=mapD e
   cases e3
   obtain⟨x,rfl,i⟩:=ix.one
   obtain⟨p,ys,_,rfl,hq,iy⟩:=R0.seq e1 i
   obtain⟨u,rfl,ru⟩:=vals1 r
   cases ru
   obtain⟨its,rv,pl,hl⟩:=I.list hq
   obtain⟨qs,rfl,rfl,q3⟩:=pairs_of e2 iy
   have e5:=refs_vals rv
   subst e5
   refine TS.sorted_pairs pl.isList (fun v hv=>?_) ?_ fun out o1 o2=>?_
   ·obtain⟨q,hq',rfl⟩:=List.mem_map.mp hv
    exact(pr_of I (q3 q hq')).1
   ·rw[List.length_map]at hl ⊢
    exact hl
   ·obtain⟨rs,p1,p2⟩:=perm_back (fun q:Addr×Int×Int=>Value.ref q.1) o1 rfl
    have e6:rs.map (·.2)=M.sortP (qs.map (·.2)):=by
     refine List.Perm.eq_of_pairwise (le:=fun a b=>M.leP a b=true) (fun a b _ _ h1 h2=>?_) ?_ (sortP_up _) ((p1.map _).trans (sortP_perm _).symm)
     ·rw[leP_iff]at h1 h2
      exact Prod.ext (by omega) (by omega)
     ·rw[List.pairwise_map]
      have o3:(rs.map fun q=>Value.ref q.1).Pairwise _:=p2▸o2
      rw[List.pairwise_map]at o3
      refine List.Pairwise.imp_of_mem (fun {a b} ha hb h1=>?_) o3
      rw[(pr_of I (q3 a (p1.mem_iff.mp ha))).2,(pr_of I (q3 b (p1.mem_iff.mp hb))).2]at h1
      exact kle_leP.mp h1
    obtain⟨ep,he⟩:=sortedAll_at s.heap (qs.map fun q=>Value.ref q.1) out
    have fr:H (s.heap.objs.size+1)=none:=I.hok.fresh (Nat.le_succ _)
    rw[← e6]at q
    refine⟨.ref (s.heap.objs.size+1),upd H (s.heap.objs.size+1) (.lst (rs.map fun q=>V.ref q.1)),I.laid (t':=s.toks) (fun b o e=>sortedAll_old e) (Nat.le_succ _) ?_,rfl,?_⟩
    ·refine⟨?_,out.toList,ep,?_,?_⟩
     ·rw[List.length_map]at hl ⊢
      rw[p1.length_eq]
      exact hl
     ·rw[p2]; exact refs_back rs
     ·rw[he]
    ·exact q _ (m++[_]) _ (Sub.app m _) (Tr.of_same (same_new fr)) (R0.new fr (pairs_isDs rs fun q hq=>q3 q (p1.mem_iff.mp hq))) R0.newLoc
  obtain⟨ns,e2,e3⟩:=mapD e
  cases e3
  split at e2
  ·cases e2
  ·rename_i h64
   obtain⟨x,rfl,i⟩:=ix.one
   obtain⟨p,ys,_,rfl,hq,iy⟩:=R0.seq e1 i
   obtain⟨u,rfl,ru⟩:=vals1 r
   cases ru
   obtain⟨its,rv,pl,_⟩:=I.list hq
   obtain⟨e4,e5⟩:=ints_of e2 iy
   have l1:=iy.length
   have l2:=rv.length
   subst e4
   have hI:IntsAre its ns:=intsAre_of rv
   refine sorted_ints pl.isList hI (by omega) fun out ns' a1 a2 a3=>?_
   have e6:ns'=M.sortInt ns:=PySem.W.ksm_same (a2.trans (sortInt_perm ns).symm) a3 (sortInt_sorted ns)
   subst e6
   obtain⟨ep,he⟩:=sortedAll_at s.heap its out
   have fr:H (s.heap.objs.size+1)=none:=I.hok.fresh (Nat.le_succ _)
   have l3:=(sortInt_perm ns).length_eq
   have l4:=lim_eq
   rw[List.length_map]at l1
   refine⟨.ref (s.heap.objs.size+1),upd H (s.heap.objs.size+1) (.lst ((M.sortInt ns).map V.int)),I.laid (t':=s.toks) (fun b o e=>sortedAll_old e) (Nat.le_succ _) ?_,rfl,?_⟩
   ·refine⟨?_,out.toList,ep,vals_ints a1,?_⟩
    ·rw[List.length_map,l3,l4]
     unfold M.lim
     omega
    ·rw[he]
   ·exact q _ (m++[_]) _ (Sub.app m _) (Tr.of_same (same_new fr)) (R0.new fr (isDs_ints _)) R0.newLoc
 ·cases e
theorem kit_one(K:PySem.W.Frag)(n t:M.Ty)(ht:t≠.non):PySem.W.kitOne K (.type n.name) (.type t.name)=some (M.tyIs t n):=by
 cases n<;>cases t<;>first
  |exact absurd rfl ht
  |rfl
  |decide +kernel
theorem kit_any(K:PySem.W.Frag)(n:M.Ty):∀ ts:List M.Ty,(∀ t∈ts,t≠.non)→PySem.W.kitAny K (.type n.name) (ts.map fun t=>Value.type t.name)=some (ts.any fun t=>M.tyIs t n)
 |[],_=>rfl
 |t::ts,h=>by
  rw[List.map_cons,List.any_cons]
  unfold PySem.W.kitAny
  rw[kit_one K n t (h t List.mem_cons_self)]
  cases M.tyIs t n with
  |true=>rfl
  |false=>exact kit_any K n ts fun t' ht=>h t' (List.mem_cons_of_mem _ ht)
theorem kit_of{pins:List (Addr×Obj)}{σ:L2.St}{H:Hp}{s:Shared}{m:List Addr}{st:Store}{d:D}{x:V}{u:Value}{n:M.Ty}(I:Inv X pins σ H s)(R0:Rel X.K m st H)(h:IsD X.K m H d x)(r:RelV x u)(e:M.tyName st d=some n):
  ∃ Hf:Heap→Prop,PySem.W.KitX X.K u (.type n.name) Hf∧Hf s.heap∧u≠.builtin "__main__.__loader__#opaque":=by
 cases d with
 |non=>cases h.non; cases r; cases e; exact⟨_,PySem.W.kitx_none,True.intro,fun z=>nomatch z⟩
 |bl b=>cases h.bl; cases r; cases e; exact⟨_,PySem.W.kitx_bool,True.intro,fun z=>nomatch z⟩
 |int b=>cases h.int; obtain⟨t,rfl⟩:=r; cases e; exact⟨_,PySem.W.kitx_int,True.intro,fun z=>nomatch z⟩
 |str b=>cases h.str; obtain⟨t,rfl⟩:=r; cases e; exact⟨_,PySem.W.kitx_str,True.intro,fun z=>nomatch z⟩
 |tup ds=>
  obtain⟨a,xs,its,rfl,hq,ix,r1,p1⟩:=isD_tuple I h
  cases r
  cases e
  obtain⟨o,h1,h2,_⟩:=p1
  exact⟨_,PySem.W.kitx_tuple,⟨o,h1,h2⟩,fun z=>nomatch z⟩
 |loc l=>
  simp only[M.tyName]at e
  obtain⟨ds,e1,e2⟩:=mapD e
  subst e2
  obtain⟨a,xs,_,rfl,hq,ix⟩:=R0.seq e1 h
  cases r
  obtain⟨its,rv,pl,_⟩:=I.list hq
  obtain⟨o,h1,h2,_⟩:=pl.isList
  exact⟨_,PySem.W.kitx_list,⟨o,h1,h2⟩,fun z=>nomatch z⟩
 |lst l=>
  simp only[M.tyName]at e
  obtain⟨ds,e1,e2⟩:=mapD e
  subst e2
  obtain⟨a,xs,_,rfl,hq,ix⟩:=R0.seq e1 h
  cases r
  obtain⟨its,rv,pl,_⟩:=I.list hq
  obtain⟨o,h1,h2,_⟩:=pl.isList
  exact⟨_,PySem.W.kitx_list,⟨o,h1,h2⟩,fun z=>nomatch z⟩
def rIsi1(K:PySem.W.Frag)(t:M.Ty):List V→Hp→VK→Prop:=fun xs H Q=>∃ m st d n x,xs=[x,.ty t.name]∧Rel K m st H∧IsD K m H d x∧M.tyName st d=some n∧Q (.bl (M.tyIs t n)) H
theorem call_isi1(t:M.Ty)(ht:t≠.non):CallR X (.builtin "isinstance") (rIsi1 X.K t):=by
 intro pins s σ H xs us Q I r h
 obtain⟨m,st,d,n,x,rfl,R0,i,e,q⟩:=h
 obtain⟨u,w,rfl,ru,rw'⟩:=vals2 r
 cases rw'
 obtain⟨Hf,Z,p,hx⟩:=kit_of I R0 i ru e
 exact PySem.W.kia_one Z I.kIn p (kit_one X.K n t ht) hx fun tk=>⟨.bl _,H,I.tok tk,rfl,q⟩
def rIsiN(K:PySem.W.Frag)(ts:List M.Ty):List V→Hp→VK→Prop:=fun xs H Q=>∃ m st d n x p,xs=[x,.ref p]∧H p=some (.tup (ts.map fun t=>V.ty t.name))∧Rel K m st H∧IsD K m H d x∧M.tyName st d=some n∧Q (.bl (ts.any fun t=>M.tyIs t n)) H
theorem vals_tys:∀ {ts:List M.Ty}{us:List Value},Vals (ts.map fun t=>V.ty t.name) us→us=ts.map fun t=>Value.type t.name
 |[],_,.nil=>rfl
 |t::ts,_,.cons r q=>by
  cases r
  rw[vals_tys q]
  rfl
theorem call_isiN(ts:List M.Ty)(ht:∀ t∈ts,t≠.non):CallR X (.builtin "isinstance") (rIsiN X.K ts):=by
 intro pins s σ H xs us Q I r h
 obtain⟨m,st,d,n,x,p,rfl,hp,R0,i,e,q⟩:=h
 obtain⟨u,w,rfl,ru,rw'⟩:=vals2 r
 cases rw'
 obtain⟨Hf,Z,pz,hx⟩:=kit_of I R0 i ru e
 obtain⟨_,its,rv,⟨cls,dd,data,sl⟩,h1,h2,nn,h3⟩:=I.hok p _ hp
 have e1:=vals_tys rv
 subst e1
 simp only at h2 h3
 subst h2 h3
 exact PySem.W.kia_tup Z I.kIn pz h1 (kit_any X.K n ts ht) hx fun tk=>⟨.bl _,H,I.tok tk,rfl,q⟩
end
end MS
end
section
namespace MS
open PySem PySem.Spec PyProof.Rows L2
noncomputable def closL(cells:List (Str×Addr)):List (Str×NameKind)→List (Str×Addr)→List (Str×Addr)
 |[],acc=>acc
 |(n,k)::r,acc=>closL cells r (if k==.free then(match cells.lookup n with|some a=>(n,a)::acc|none=>acc) else acc)
theorem clos_loop{env:Env}:∀ (names:List (Str×NameKind)) (acc:List (Str×Addr)),(∀ x∈names,x.2=.free→∃ c,env.cells.lookup x.1=some c)→
  (forIn names acc fun x r=>match x,r with
   |(name,kind),cs=>if (kind==.free)=true then do let a ← cellOf env name; pure (ForInStep.yield ((name,a)::cs)) else pure (ForInStep.yield cs):Sem (List (Str×Addr)))=pure (closL env.cells names acc):=by
 intro names
 induction names with
 |nil=>intro acc _; rfl
 |cons x r ih=>
  intro acc h
  obtain⟨n,k⟩:=x
  rw[List.forIn_cons]
  have hr:=fun acc=>ih acc fun y hy=>h y (List.mem_cons_of_mem _ hy)
  by_cases hk:k=.free
  ·subst hk
   obtain⟨c,hc⟩:=h (n,.free) List.mem_cons_self rfl
   simp only[beq_self_eq_true,if_true,cellOf,hc]
   show(do let r_1 ← (do let a ← (pure c:Sem Addr); pure (ForInStep.yield ((n,a)::acc))); match r_1 with|.done b=>pure b|.yield b=>_)=_
   simp only[pure_bind]
   refine(hr ((n,c)::acc)).trans ?_
   have hc':env.cells.lookup n=some c:=hc
   simp[closL,hc']
  ·have hb:(k==NameKind.free)=false:=by simpa using hk
   simp only[hb,Bool.false_eq_true,if_false,pure_bind]
   refine(hr acc).trans ?_
   simp[closL,hb]
theorem closureFor_of{scope:Scope}{env:Env}(h:∀ x∈scope.names,x.2=.free→∃ c,env.cells.lookup x.1=some c):closureFor scope env=pure (closL env.cells scope.names []):=by
 unfold closureFor
 have:=clos_loop (env:=env) scope.names [] h
 simp only[this]
 rfl
theorem closL_in{cells:List (Str×Addr)}{x:Str}{c:Addr}(hc:cells.lookup x=some c):∀ (names:List (Str×NameKind)) (acc:List (Str×Addr)),((x,NameKind.free)∈names∨acc.lookup x=some c)→(closL cells names acc).lookup x=some c
 |[],acc,h=>by
  rcases h with h|h
  ·cases h
  ·exact h
 |(n,k)::r,acc,h=>by
  unfold closL
  refine closL_in hc r _ ?_
  by_cases hk:k=.free
  ·subst hk
   simp only[beq_self_eq_true,if_true]
   by_cases hn:n=x
   ·subst hn
    rw[hc]
    exact .inr (by simp)
   ·rcases h with h|h
    ·rcases List.mem_cons.mp h with e|e
     ·cases e; exact absurd rfl hn
     ·exact .inl e
    ·refine .inr ?_
     split
     ·have:(x==n)=false:=by simpa using Ne.symm hn
      rw[List.lookup_cons,this]; exact h
     ·exact h
  ·have hb:(k==NameKind.free)=false:=by simpa using hk
   rw[hb,if_neg Bool.false_ne_true]
   rcases h with h|h
   ·rcases List.mem_cons.mp h with e|e
    ·cases e; exact absurd rfl hk
    ·exact .inl e
   ·exact .inr h
theorem closL_out{cells:List (Str×Addr)}:∀ (names:List (Str×NameKind)) (acc:List (Str×Addr)),(∀ x c,acc.lookup x=some c→cells.lookup x=some c)→∀ x c,(closL cells names acc).lookup x=some c→cells.lookup x=some c
 |[],acc,h,x,c,e=>h x c e
 |(n,k)::r,acc,h,x,c,e=>by
  unfold closL at e
  refine closL_out r _ ?_ x c e
  intro y d q
  by_cases hk:(k==NameKind.free)=true
  ·rw[if_pos hk]at q
   split at q
   ·rename_i a ha
    by_cases hy:(y==n)=true
    ·rw[List.lookup_cons,hy]at q
     rw[eq_of_beq hy,ha]; exact q
    ·have:(y==n)=false:=by simpa using hy
     rw[List.lookup_cons,this]at q
     exact h y d q
   ·exact h y d q
  ·rw[if_neg hk]at q
   exact h y d q
theorem relabel_lookup(env:Env):∀ (names:List (Str×NameKind)) (x:Str),(names.map fun(n,k)=>if (k==NameKind.free&&env.scope.kind==.function&&env.kindOf n==some .cell) then(n,NameKind.cell) else(n,k)).lookup x =
  (names.lookup x).map fun k=>if (k==NameKind.free&&env.scope.kind==.function&&env.kindOf x==some .cell) then NameKind.cell else k
 |[],x=>rfl
 |(n,k)::r,x=>by
  have ih:=relabel_lookup env r x
  rw[List.map_cons]
  by_cases hx:(x==n)=true
  ·have e:=eq_of_beq hx
   subst e
   dsimp only
   split
   ·rename_i hc
    rw[List.lookup_cons,hx,List.lookup_cons,hx]
    dsimp only[Option.map_some]
    rw[if_pos hc]
   ·rename_i hc
    rw[List.lookup_cons,hx,List.lookup_cons,hx]
    dsimp only[Option.map_some]
    rw[if_neg hc]
  ·have hx':(x==n)=false:=by simpa using hx
   dsimp only
   split
   ·rw[List.lookup_cons,hx',List.lookup_cons,hx']; exact ih
   ·rw[List.lookup_cons,hx',List.lookup_cons,hx']; exact ih
section
variable {prog:Program}{w:World}{A:Around}{R:Result→Shared→Prop}{s:Shared}
abbrev NoX:Value→Shared→Prop:=fun _ _=>False
theorem compLoop_any{elt target iter:Expr}{ifs:List Expr}{scope:Scope}{pos:Pos}{it acc:Value}{env:Env}(I:Nat→Shared→Prop)
  (turn:∀ n s,I n s→wpAny (model prog w) A (pyNext it) (fun r s₁=>match r with
   |none=>R (.ok .next) s₁
   |some v=>wpAny (model prog w) A (letOwnedTupleGo target it v) (fun _ s₀=>wpAny (model prog w) A (assign target env v) (fun _ s₂=>
     wpAny (model prog w) A (forIn ifs true fun c r=>if r=true then do let ok ← isTrue c env (eval c env); pure (ForInStep.yield ok) else pure (ForInStep.yield r)) (fun ok s₃=>
      if ok=true then wpAny (model prog w) A (eval elt env) (fun x s₄=>wpAny (model prog w) A (call (.builtin "list.append") [acc,x]) (fun _ s₅=>∃ m,m<n∧I m s₅) NoX s₄) NoX s₃
      else ∃ m,m<n∧I m s₃) NoX s₂) NoX s₀) NoX s₁) NoX s)
  (n:Nat) (h:I n s):codeAny (model prog w) A (.compLoop (.ListComp elt [⟨target,iter,ifs,0⟩] scope pos) 0 it acc env) R s:=by
 refine codeAny_loop rfl I (fun n s hI=>?_) n h
 show wpAny _ A ((compTurn (.ListComp elt [⟨target,iter,ifs,0⟩] scope pos) 0 it acc env).onRaise (fun x=>do noteFrame x env; theTreesLotGoes x)) _ _ s
 refine wpAny_noted ?_
 rw[compTurn_list]
 refine wpAny_bind (wpAny_standAt (wpAny_bind (wpAny_mono (turn n s hI) (fun r s₁ h₁=>?_) fun _ _ z=>z.elim)))
 cases r with
 |none=>exact wpAny_pure h₁
 |some v=>
  refine wpAny_bind (wpAny_mono h₁ (fun _ s₀ h₀=>?_) fun _ _ z=>z.elim)
  refine wpAny_bind (wpAny_mono h₀ (fun _ s₂ h₂=>wpAny_bind (wpAny_mono h₂ (fun ok s₃ h₃=>?_) fun _ _ z=>z.elim)) fun _ _ z=>z.elim)
  cases ok with
  |false=>exact wpAny_pure ⟨rfl,h₃⟩
  |true=>
   exact wpAny_bind (wpAny_bind (wpAny_mono h₃ (fun x s₄ h₄=>wpAny_bind (wpAny_mono h₄ (fun _ s₅ h₅=>wpAny_pure (wpAny_pure ⟨rfl,h₅⟩)) fun _ _ z=>z.elim)) fun _ _ z=>z.elim))
end
theorem HOk.track{P:Program}{w:World}{H:Hp}{h:Heap}{a:Addr}{o:HO}(x:HOk P w H h)(hn:H a=none)(new:ObjOk P w (upd H a o) h a o):HOk P w (upd H a o) h:=fun b u e=>by
 by_cases hb:b=a
 ·subst hb; rw[upd_same]at e; cases e; exact new
 ·rw[upd_ne hb]at e
  exact(x b u e).stay (fun c v _ q=>q) (fun c q=>by rw[upd_ne (ne_of_none q hn)]; exact q) fun c xs q=>by rw[upd_ne (ne_of_none q hn)]; exact q
theorem Inv.track{X:Cx}{pins:List (Addr×Obj)}{σ:L2.St}{H:Hp}{s:Shared}{a:Addr}{o:HO}(I:Inv X pins σ H s)(hf:FpOk X pins H a)(new:ObjOk X.prog X.w (upd H a o) s.heap a o):Inv X pins σ (upd H a o) s:=by
 obtain⟨f0,f1,f2,f3,f4,f5⟩:=hf
 refine I.step (h':=s.heap) (g':=s.gens) (t':=s.toks) (d':=s.drawn) (ch:=[a]) (fun b hb=>?_) (fun b o _ _ _ e _=>e) (fun b o _ _ _ e _=>⟨o.slots,e⟩) (fun b o hb e n=>?_) (fun b o _ e=>⟨o,e⟩)
  (fun b xs e=>by rw[upd_ne (ne_of_none e f0)]; exact e) (fun b o u e=>by rw[upd_ne (ne_of_none e f0)]; exact e) (fun b ps e=>⟨#[],by rw[upd_ne (ne_of_none e f0),e]; simp⟩) (fun m h=>h) (HOk.track I.hok f0 new) I.bare
 ·have e:b=a:=by simpa using hb
  subst e
  exact⟨f3,f1,f4,f5⟩
 ·rw[upd_ne (by simpa using hb)]; exact n
noncomputable def cxComp(X:Cx)(N:List Str)(scope:Scope)(C:Addr)(fp:List Addr)(s:Shared)(H:Hp):Cx:=
 { X with N:=N,s₀:=s,H₀:=H,env:=compEnvC scope (closL X.env.cells scope.names []) C X.env,outer:=X.stack,ex:=fp,fn:=fun _=>false,pn:=[],xe:=fun _ _=>False }
noncomputable def innerS(src:List (Option Nat))(σ:L2.St):L2.St:=src.map fun o=>o.bind fun i=>(σ[i]?).bind id
structure CompScope (X:Cx) (N:List Str) (src:List (Option Nat)) (scope:Scope):Prop where
 kind:scope.kind=.function
 cell:∀ y∈scope.names,y.2≠.cell
 free:∀ y∈scope.names,y.2=.free→X.env.kindOf y.1=some .cell∨X.env.kindOf y.1=some .free
 loc:∀ y∈scope.names,y.2=.local→scope.names.lookup y.1=some .local
 len:src.length=N.length
 src:∀ (j i:Nat),src[j]?=some (some i)→∃ x,N[j]?=some x∧X.N[i]?=some x∧scope.names.lookup x=some .free
section
variable {X:Cx}{pins:List (Addr×Obj)}{σ:L2.St}{H:Hp}{s:Shared}
theorem mem_lookup{names:List (Str×NameKind)}{x:Str}{k:NameKind}(h:names.lookup x=some k):(x,k)∈names:=PySem.mem_of_lookup h
theorem comp_clos{N:List Str}{src:List (Option Nat)}{scope:Scope}(S:CompScope X N src scope)(I:Inv X pins σ H s):closureFor scope X.env=pure (closL X.env.cells scope.names []):=
 closureFor_of fun x hx hk=>I.ok.has x.1 (S.free x hx hk)
theorem comp_ok{N:List Str}{src:List (Option Nat)}{scope:Scope}{C:Addr}{fp:List Addr}(S:CompScope X N src scope)(I:Inv X pins σ H s)(hC:s.heap.objs.size≤C)(hfp:∀ b∈fp,FpOk X pins H b)(hlt:∀ b∈fp,b<s.heap.objs.size):(cxComp X N scope C fp s H).Ok where
 mod:=I.ok.mod
 kind:=S.kind
 glob:=I.ok.glob
 blt:=I.ok.blt
 above:=hC
 inj:=fun x y c h1 h2=>I.ok.inj x y c (closL_out _ [] (fun _ _ z=>nomatch z) x c h1) (closL_out _ [] (fun _ _ z=>nomatch z) y c h2)
 has:=fun x h=>by
  have e:(cxComp X N scope C fp s H).env.kindOf x=(scope.names.lookup x).map fun k=>if (k==NameKind.free&&X.env.scope.kind==.function&&X.env.kindOf x==some .cell) then NameKind.cell else k:=relabel_lookup X.env scope.names x
  rw[e]at h
  cases q:scope.names.lookup x with
  |none=>rw[q]at h; rcases h with h|h<;>cases h
  |some k=>
   have hk:k=.free:=by
    rw[q]at h
    simp only[Option.map_some,Option.some.injEq]at h
    by_cases hc:(k==NameKind.free&&X.env.scope.kind==.function&&X.env.kindOf x==some .cell)=true
    ·simp only[Bool.and_eq_true]at hc
     exact eq_of_beq hc.1.1
    ·rw[if_neg hc]at h
     rcases h with h|h
     ·subst h; exact absurd rfl (S.cell _ (mem_lookup q))
     ·exact h
   subst hk
   have hm:=mem_lookup q
   obtain⟨c,hc⟩:=I.ok.has x (S.free _ hm rfl)
   exact⟨c,closL_in hc _ _ (.inl hm)⟩
 cab:=fun x c h=>by cases h
 hd:=I.ok.hd
 frames:=I.ok.frames
 stk:=.inl rfl
 exf:=fun b hb=>⟨Nat.ne_of_lt (Nat.lt_of_lt_of_le (hlt b hb) hC),fun x c e=>(hfp b hb).2.2.2.2.1 x c (closL_out _ [] (fun _ _ z=>nomatch z) x c e)⟩
 bs:=I.bs
 bsz:=Nat.le_trans I.ok.bsz I.sz
 noex:=fun b o e hb=>by
  rcases (hfp b hb).2.2.2.1 with z|z
  ·exact I.ok.noex b o e z
  ·exact absurd (Nat.lt_of_lt_of_le (Heap.lt_size e) (Nat.le_trans I.ok.bsz z)) (Nat.lt_irrefl _)
 exfs:=fun b hb hf=>by
  have f:=hfp b hb
  rcases List.mem_cons.mp (I.stkSub b hf) with z|z
  ·exact f.2.1 z
  ·exact f.2.2.1 z
 funs:=I.stack
 frf:=I.stkFree
theorem comp_start{N:List Str}{src:List (Option Nat)}{scope:Scope}{C:Addr}{fp:List Addr}{h':Heap}{tk:Nat}{m':Str→Option Value}(S:CompScope X N src scope)(I:Inv X pins σ H s)(hC:s.heap.objs.size≤C)(hfp:∀ b∈fp,FpOk X pins H b)(hlt:∀ b∈fp,b<s.heap.objs.size)
  (kp:∀ b o,s.heap.get? b=some o→h'.get? b=some o) (ns:h'.Ns C m'):Inv (cxComp X N scope C fp s H) [] (innerS src σ) H { s with heap:=h',toks:=tk }:=by
 have O:=comp_ok S I hC hfp hlt
 refine⟨O,rfl,I.bare,Un.kept kp,⟨m',ns,fun j x v hN hσ hv=>?_⟩,fun x c e=>?_,I.hok.fresh hC,fun x c e=>?_,fun p hp=>absurd (show p∈([]:List (Addr×Obj)) from hp) (by simp),I.hok.kept kp,?_⟩
 ·unfold innerS at hσ
  rw[List.getElem?_map]at hσ
  cases q:src[j]? with
  |none=>rw[q]at hσ; cases hσ
  |some o=>
   rw[q]at hσ
   cases o with
   |none=>cases hσ
   |some i=>
    obtain⟨x',e1,e2,e3⟩:=S.src j i q
    have hN:N[j]?=some x:=hN
    rw[hN]at e1
    cases e1
    have hi:σ[i]?=some (some v):=by
     cases z:σ[i]? with
     |none=>simp[z]at hσ
     |some w=>
      cases w with
      |none=>simp[z]at hσ
      |some w=>simpa[z] using hσ
    obtain⟨m0,hn0,hl0⟩:=I.loc
    have hk:=S.free _ (mem_lookup e3) rfl
    have vis:Vis X.env.scope x:=by
     rcases hk with z|z
     ·exact .inr (.inl z)
     ·exact .inr (.inr z)
    obtain⟨u,ru,lk⟩:=hl0 i x v e2 hi vis
    refine⟨u,ru,?_⟩
    rcases lk with⟨z,_⟩|⟨_,c,hc,hcell⟩
    ·rcases hk with y|y
     ·rw[y]at z; cases z
     ·rw[y]at z; cases z
    ·refine .inr ⟨?_,c,closL_in hc _ _ (.inl (mem_lookup e3)),?_⟩
     ·have e:(cxComp X N scope C fp s H).env.kindOf x=(scope.names.lookup x).map fun k=>if (k==NameKind.free&&X.env.scope.kind==.function&&X.env.kindOf x==some .cell) then NameKind.cell else k:=relabel_lookup X.env scope.names x
      rw[e,e3]
      simp only[Option.map_some,Option.some.injEq]
      by_cases hc:(NameKind.free==NameKind.free&&X.env.scope.kind==.function&&X.env.kindOf x==some .cell)=true
      ·rw[if_pos hc]; exact .inl rfl
      ·rw[if_neg hc]; exact .inr rfl
     ·obtain⟨o,ho,hd⟩:=hcell
      exact⟨o,kp c o ho,hd⟩
 ·have e':=closL_out _ [] (fun _ _ z=>nomatch z) x c e
  obtain⟨v,o,ho,hd⟩:=I.cell x c e'
  exact⟨v,o,kp c o ho,hd⟩
 ·exact I.freeC x c (closL_out _ [] (fun _ _ z=>nomatch z) x c e)
 ·unfold innerS
  rw[List.length_map]
  exact S.len
end
def TestR(X:Cx)(ifs:List Expr)(tt:TT):Prop:=∀ (pins:List (Addr×Obj)) (s:Shared) (σ:L2.St) (H:Hp) (Q:Bool→Hp→Prop),Inv X pins σ H s→tt σ H Q→
 wpAny (model X.prog X.w) X.A (forIn ifs true fun c r=>if r=true then do let ok ← isTrue c X.env (eval c X.env); pure (ForInStep.yield ok) else pure (ForInStep.yield r)) (TP X pins σ Q) X.xe s
theorem test_nil{X:Cx}:TestR X [] (fun _ H Q=>Q true H):=fun pins s σ H Q I h=>by
 show wpAny _ _ (pure true) _ _ _
 exact wpAny_pure ⟨H,I,h⟩
theorem comp_block{X:Cx}{pins:List (Addr×Obj)}{σ:L2.St}{H:Hp}{s:Shared}{elt tg iter:Expr}{ifs:List Expr}{scope:Scope}{pos:Pos}{it:Addr}{fp:List Addr}{tn:Nat→Heap→Prop}{J:It}{N:List Str}{src:List (Option Nat)}
  {g:TG}{tt:TT}{te:TE}{E:Value→Shared→Prop}{Fin:List V→Hp→Prop}{RR:Value→Addr→Result→Shared→Prop}(hc:X.calm=true) (I:Inv X pins σ H s) (T:Turn X.prog X.w X.K tg J fp it tn) (st0:tn 0 s.heap) (hfp:∀ b∈fp,FpOk X pins H b) (S:CompScope X N src scope)
  (hg:∀ C,PG (cxComp X N scope C fp s H) tg g) (ht:∀ C,TestR (cxComp X N scope C fp s H) ifs tt) (he:∀ C,PE (cxComp X N scope C fp s H) elt te)
  (W:Nat→Nat→List V→L2.St→Hp→Prop) (w0:∃ k,W 0 k [] (innerS src σ) H)
  (step:∀ i k acc σ H,W i k acc σ H→(J.stop i H∧acc.length≤sizeLine∧Fin acc H)∨(J.go i H∧acc.length<sizeLine∧∀ x H',J.yld i H x H'→g x σ H' fun σ2 H2=>tt σ2 H2 fun b H3=>
   if b=true then te σ2 H3 fun v H4=>∃ k',k'<k∧W (i+1) k' (acc++[v]) σ2 H4 else ∃ k',k'<k∧W (i+1) k' acc σ2 H3))
  (hRR:∀ D C s' H' acc,Fin acc H'→H' D=none→Inv X pins σ (upd H' D (.lst acc)) s'→FpOk X pins (upd H' D (.lst acc)) C→(∃ m,s'.heap.Ns C m)→RR (.ref D) C (.ok .next) s') :
  wpAny (model X.prog X.w) X.A (newList []) (fun acc s₃=>wpAny (model X.prog X.w) X.A (newFunctionEnv scope X.env.globals (closL X.env.cells scope.names []) [] X.env.qual none .none (some X.env)) (fun cenv s₄=>
   codeAny (model X.prog X.w) X.A (.compStart (.ListComp elt [⟨tg,iter,ifs,0⟩] scope pos) 0 (.ref it) acc { cenv with scope:=relabel scope X.env }) (RR acc cenv.locals) s₄) E s₃) E s:=by
 have hlt:∀ b∈fp,b<s.heap.objs.size:=fun b hb=>by obtain⟨o,e,_⟩:=T.obj 0 _ st0 b hb; exact Heap.lt_size e
 refine wpAny_newObj_type (wpAny_newFunctionEnv S.cell (by intro y hy; simp at hy) (fun h₁ hns₁ hsb₁=>?_) S.kind)
 dsimp only at hns₁ hsb₁ ⊢
 generalize hH2:s.heap.push { cls:=.type "list",dict:=none,data:=.seq ([]:List Value).toArray }=H2 at hns₁ hsb₁ ⊢
 have hC:H2.objs.size=s.heap.objs.size+1:=by rw[← hH2,Heap.size_push]
 have hDC:s.heap.objs.size≠H2.objs.size:=by rw[hC]; exact Nat.ne_of_lt (Nat.lt_succ_self _)
 have hCle:s.heap.objs.size≤H2.objs.size:=by rw[hC]; exact Nat.le_succ _
 have old:∀ b o,s.heap.get? b=some o→h₁.get? b=some o:=fun b o e=>hsb₁.extBut b o (by rw[hC]; exact Nat.ne_of_lt (Nat.lt_succ_of_lt (Heap.lt_size e))) (Heap.get?_push_of_some _ (hH2▸Heap.get?_push_of_some _ e))
 have hacc:h₁.get? s.heap.objs.size=some { cls:=.type "list",data:=.seq ([]:List Value).toArray }:=hsb₁.extBut _ _ hDC (Heap.get?_push_of_some _ (hH2▸Heap.get?_push_size _ rfl))
 generalize hDd:s.heap.objs.size=Dd at hDC hCle hacc
 generalize hCc:H2.objs.size=Cc at hDC hCle hns₁ hsb₁ hC ⊢
 have hDs:s.heap.objs.size≤Dd:=Nat.le_of_eq hDd
 have hCs:s.heap.objs.size≤Cc:=by rw[hDd]; exact hCle
 have fD:H Dd=none:=I.hok.fresh hDs
 have I1:Inv (cxComp X N scope Cc fp s H) [] (innerS src σ) H { s with heap:=h₁,toks:=s.toks+([]:List (Str×Value)).length }:=comp_start S I hCs hfp hlt old hns₁
 have nfp:∀ b∈fp,b≠Dd:=fun b hb=>by rw[← hDd]; exact Nat.ne_of_lt (hlt b hb)
 have cellD:∀ x c,(cxComp X N scope Cc fp s H).env.cells.lookup x=some c→c≠Dd:=fun x c e z=>by
  have e':=closL_out _ [] (fun _ _ z=>nomatch z) x c e
  obtain⟨v,o,ho,_⟩:=I.cell x c e'
  rw[z,← hDd]at ho
  exact Nat.lt_irrefl _ (Heap.lt_size ho)
 have fsD:Dd ∉ (cxComp X N scope Cc fp s H).fs:=fun z=>by
  obtain⟨_,o,ho,_⟩:=I1.ok.funs.mem z
  have ho:s.heap.get? Dd=some o:=ho
  rw[← hDd]at ho
  exact Nat.lt_irrefl _ (Heap.lt_size ho)
 have stat:∀ {pl:List (Addr×Obj)}{H':Hp},(∀ p∈pl,p.1=Dd)→(∀ b∈fp,H' b=none)→∀ b∈fp,FpOk (cxComp X N scope Cc fp s H) pl H' b:=fun {pl H'} hpl hn b hb=>
  ⟨hn b hb,(I1.ok.exf b hb).1,I1.ok.exfs b hb,.inl hb,(I1.ok.exf b hb).2,fun p hp=>by
   have hp':p∈pl:=hp
   rw[hpl p hp']; exact(nfp b hb).symm⟩
 obtain⟨k0,w0⟩:=w0
 have loop:∀ s₃:Shared,s₃={ s with heap:=h₁,toks:=s.toks+([]:List (Str×Value)).length }→
   codeAny (model X.prog X.w) X.A (.compLoop (.ListComp elt [⟨tg,iter,ifs,0⟩] scope pos) 0 (.ref it) (.ref Dd) (compEnvC scope (closL X.env.cells scope.names []) Cc X.env)) (RR (.ref Dd) Cc) s₃:=by
  rintro s₃ rfl
  refine compLoop_any (fun k s'=>∃ i acc its nn σ' H',Inv (cxComp X N scope Cc fp s H) [] σ' H' s'∧tn i s'.heap∧(∀ b∈fp,H' b=none)∧W i k acc σ' H'∧Vals acc its∧s'.heap.get? Dd=some { cls:=.type "list",data:=.seq its.toArray nn }∧H' Dd=none) ?_ k0
   ⟨0,[],[],0,innerS src σ,H,I1,T.keep _ _ _ st0 fun b _ o e=>old b o e,fun b hb=>(hfp b hb).1,w0,.nil,hacc,fD⟩
  rintro k s3 ⟨i,acc,its,nn,σ3,H3,I3,t3,fr3,w3,rv,ho3,nD3⟩
  have I3':Inv (cxComp X N scope Cc fp s H) [(Dd,{ cls:=.type "list",data:=.seq its.toArray nn })] σ3 H3 s3:=I3.pins_of fun p hp=>by
   have e:p=(Dd,{ cls:=.type "list",data:=.seq its.toArray nn }):=by simpa using hp
   subst e
   exact⟨ho3,nD3,hDC,fsD,fun v z=>by
    have z':Data.seq its.toArray nn=Data.cell v:=z
    cases z'⟩
  rcases step i k acc σ3 H3 w3 with⟨stop,hz,fin⟩|⟨go,hz,next⟩
  ·refine thn (T.done (cxComp X N scope Cc fp s H) rfl rfl rfl hc i _ s3 σ3 H3 NoX I3' (stat (fun p hp=>by rw[List.mem_singleton.mp hp]) fr3) t3 stop) fun r s4 ⟨hr,I4⟩=>?_
   subst hr
   have p4:=I4.pin (Dd,{ cls:=.type "list",data:=.seq its.toArray nn }) (List.mem_append_right _ (by simp))
   have I5:Inv X pins σ H3 s4:=I.call' I4.os I4.base I4.hok I4.bare fun b hb=>⟨(hfp b hb).2.2.2.1,(hfp b hb).2.1,(hfp b hb).2.2.2.2.1,(hfp b hb).2.2.2.2.2⟩
   have fpD:FpOk X pins H3 Dd:=I.fpOk hDs nD3
   refine hRR Dd Cc s4 H3 acc fin nD3 (Inv.track I5 fpD ⟨hz,its,nn,rv,p4.1⟩) (I.fpOk hCs (by rw[upd_ne (Ne.symm hDC)]; exact I4.free)) ?_
   obtain⟨m4,n4,_⟩:=I4.loc
   exact⟨m4,n4⟩
  ·refine thn (T.item (cxComp X N scope Cc fp s H) rfl rfl rfl hc i _ s3 σ3 H3 NoX I3' (stat (fun p hp=>by rw[List.mem_singleton.mp hp]) fr3) t3 go) fun r s4 ⟨u,hr,h4⟩=>?_
   subst hr
   refine thn h4 fun _ s5 ⟨x,H5,I5,r5,y5,t5,fr5⟩=>?_
   have I5':=I5.pinned (stat (fun p hp=>by rw[List.mem_singleton.mp hp]) fr5) (T.obj _ _ t5)
   refine thn (hg Cc _ s5 σ3 H5 x u _ I5' r5 (next x H5 y5)) fun _ s6 ⟨σ6,H6,I6,q6⟩=>?_
   refine thn (ht Cc _ s6 σ6 H6 _ I6 q6) fun b s7 ⟨H7,I7,q7⟩=>?_
   have back:∀ {σ8:L2.St}{H8:Hp}{s8:Shared},Inv (cxComp X N scope Cc fp s H) ([(Dd,{ cls:=.type "list",data:=.seq its.toArray nn })]++pinsAt fp s5.heap) σ8 H8 s8→
     tn (i+1) s8.heap∧(∀ b∈fp,H8 b=none)∧s8.heap.get? Dd=some { cls:=.type "list",data:=.seq its.toArray nn }∧H8 Dd=none:=fun {σ8 H8 s8} I8=>by
    refine⟨T.keep _ _ _ t5 fun b hb o e=>(I8.pin (b,o) (List.mem_append_right _ (List.mem_append_right _ (mem_pinsAt hb e)))).1,fun b hb=>?_,?_,?_⟩
    ·obtain⟨o,e,d⟩:=T.obj _ _ t5 b hb
     exact(I8.pin (b,o) (List.mem_append_right _ (List.mem_append_right _ (mem_pinsAt hb e)))).2.1
    ·exact(I8.pin (Dd,_) (List.mem_append_right _ (List.mem_append_left _ (by simp)))).1
    ·exact(I8.pin (Dd,{ cls:=.type "list",data:=.seq its.toArray nn }) (List.mem_append_right _ (List.mem_append_left _ (by simp)))).2.1
   cases b with
   |false=>
    simp only[Bool.false_eq_true,if_false]at q7 ⊢
    obtain⟨k',hk,w7⟩:=q7
    obtain⟨b1,b2,b3,b4⟩:=back I7
    exact⟨k',hk,i+1,acc,its,nn,σ6,H7,I7.pins_of fun p hp=>absurd hp (by simp),b1,b2,w7,rv,b3,b4⟩
   |true=>
    simp only[if_true]at q7 ⊢
    refine thn (he Cc _ s7 σ6 H7 _ I7 q7) fun y s8 ⟨v8,H8,I8,r8,k',hk,w8⟩=>?_
    obtain⟨b1,b2,b3,b4⟩:=back I8
    have l1:=rv.length
    refine call_meets F.slot_list_append ⟨_,b3,rfl⟩ F.entry_list_append (F.args_list_append_2 _ _) (PySem.list_append Dd its.toArray nn y (by rw[List.size_toArray]; omega)) ⟨b3,?_⟩
    have q:=PySem.IsL.update b3 (fun a=>a.push y)
    have hpush:its.toArray.push y=(its++[y]).toArray:=by simp
    rw[hpush]at q
    have I9:Inv (cxComp X N scope Cc fp s H) [] σ6 H8 s8:=I8.pins_of fun p hp=>absurd hp (by simp)
    have I10:Inv (cxComp X N scope Cc fp s H) [] σ6 H8 { s8 with heap:=s8.heap.update Dd (Obj.mapSeq (·.push y)) }:=
     I9.turned (it:=Dd) (t':=s8.toks) (fun b o hb e=>(Heap.get?_update_other s8.heap _ (Ne.symm hb)).trans e) b4 hDC (.inr hDs) cellD fun p hp=>absurd (show p∈([]:List (Addr×Obj)) from hp) (by simp)
    exact⟨k',hk,i+1,acc++[v8],its++[y],_,σ6,H8,I10,T.keep _ _ _ b1 fun b hb o e=>(Heap.get?_update_other s8.heap _ (Ne.symm (nfp b hb))).trans e,b2,w8,rv.append (.cons r8 .nil),q,b4⟩
 exact codeAny_compStart_list (loop _ rfl) (T.self _ 0 _ _ _ (T.keep _ _ _ st0 fun b _ o e=>old b o e) (loop _ rfl))
noncomputable def tComp(src:List (Option Nat))(wi:TI)(g:TG)(tt:TT)(te:TE):TE:=fun σ H Q=>wi σ H fun J H1=>∃ W:Nat→Nat→List V→L2.St→Hp→Prop,(∃ k,W 0 k [] (innerS src σ) H1)∧
 ∀ i k acc σ' H',W i k acc σ' H'→(J.stop i H'∧acc.length≤sizeLine∧∀ p,H' p=none→Q (.ref p) (upd H' p (.lst acc)))∨(J.go i H'∧acc.length<sizeLine∧∀ x H2,J.yld i H' x H2→g x σ' H2 fun σ2 H3=>tt σ2 H3 fun b H4=>
  if b=true then te σ2 H4 fun v H5=>∃ k',k'<k∧W (i+1) k' (acc++[v]) σ2 H5 else ∃ k',k'<k∧W (i+1) k' acc σ2 H4)
theorem pe_comp{X:Cx}{elt tg iter:Expr}{ifs:List Expr}{scope:Scope}{pos:Pos}{N:List Str}{src:List (Option Nat)}{wi:TI}{g:TG}{tt:TT}{te:TE}(hc:X.calm=true)(S:CompScope X N src scope)(hi:PI X tg iter wi)
  (hg:∀ C fp s H,PG (cxComp X N scope C fp s H) tg g) (ht:∀ C fp s H,TestR (cxComp X N scope C fp s H) ifs tt) (he:∀ C fp s H,PE (cxComp X N scope C fp s H) elt te)
  (hs:∀ x,foldedSetIterable iter X.env x=pure x):PE X (.ListComp elt [⟨tg,iter,ifs,0⟩] scope pos) (tComp src wi g tt te):=by
 intro pins s σ H Q I h
 rw[eval_ListComp]
 refine wpAny_comprehension_free (use:=none) rfl hs (comp_clos S I) S.kind S.loc (thn (hi pins s σ H _ I h) fun v s1 h1=>thn h1 fun itv s2 h2=>?_)
 obtain⟨it,fp,tn,J,H2,e,I2,T,st2,f2,W,w0,turn⟩:=h2
 subst e
 refine comp_block hc I2 T st2 f2 S (fun C=>hg C fp s2 H2) (fun C=>ht C fp s2 H2) (fun C=>he C fp s2 H2) W w0 turn ?_
 intro D C s' H' acc fin nD I' fC hm
 obtain⟨m',hn⟩:=hm
 refine⟨m',hn,fun h' sb=>⟨.ref D,upd H' D (.lst acc),?_,rfl,fin D nD⟩⟩
 obtain⟨c0,c1,c2,c3,c4,c5⟩:=fC
 exact I'.turned (t':=s'.toks) (fun b o hb e=>(sb.2 b hb).trans e) c0 c1 c3 c4 c5
end MS
end
section
namespace MS
open PySem PySem.Spec PyProof.Rows L2
theorem Inv.turnedL{X:Cx}{pins:List (Addr×Obj)}{σ:L2.St}{H:Hp}{s:Shared}{h':Heap}{t':Nat}{ch:List Addr}(I:Inv X pins σ H s)(k:∀ b o,b ∉ ch→s.heap.get? b=some o→h'.get? b=some o)(hf:∀ b∈ch,FpOk X pins H b):Inv X pins σ H { s with heap:=h',toks:=t' }:=by
 have nit:∀ b u,H b=some u→b ∉ ch:=fun b u e z=>by rw[(hf b z).1]at e; cases e
 refine I.step (g':=s.gens) (d':=s.drawn) (ch:=ch) (fun b hb=>?_) (fun b o _ _ hc e _=>k b o hc e) (fun b o _ _ hc e _=>⟨o.slots,k b o hc e⟩) (fun _ _ _ _ n=>n) (fun b o hc e=>⟨o,k b o hc e⟩) (fun _ _ e=>e) (fun _ _ _ e=>e) (fun b ps e=>⟨#[],by rw[e]; simp⟩) (fun m hm=>?_) (fun b u e=>?_) I.bare
 ·obtain⟨f0,f1,f2,f3,f4,f5⟩:=hf b hb
  exact⟨f3,f1,f4,f5⟩
 ·obtain⟨o,es,ep,ho,r⟩:=hm
  exact⟨o,es,ep,k _ o (fun z=>(hf _ z).2.1 rfl) ho,r⟩
 ·refine(I.hok b u e).stay (fun c v hc q=>k c v ?_ q) (fun _ q=>q) fun _ _ q=>q
  rcases hc with z|z
  ·rw[z]; exact nit b u e
  ·exact nit c _ z
inductive RK where
 |lst|tup
noncomputable def RK.It:RK→Heap→Addr→Addr→Nat→Prop
 |.lst,h,it,a,i=>h.IsListIter it a i
 |.tup,h,it,a,i=>h.IsTupleIter it a i
noncomputable def RK.Sq:RK→Heap→Addr→Array Value→Prop
 |.lst,h,a,xs=>h.IsList a xs
 |.tup,h,a,xs=>h.IsTuple a xs
theorem RK.It.on{k:RK}{h h':Heap}{it a:Addr}{i:Nat}(x:k.It h it a i)(e:∀ o,h.get? it=some o→h'.get? it=some o):k.It h' it a i:=by
 cases k with
 |lst=>exact Heap.IsListIter.at x e
 |tup=>obtain⟨o,ho,r⟩:=x; exact⟨o,e o ho,r⟩
theorem RK.Sq.on{k:RK}{h h':Heap}{a:Addr}{xs:Array Value}(x:k.Sq h a xs)(e:∀ o,h.get? a=some o→h'.get? a=some o):k.Sq h' a xs:=by
 cases k with
 |lst=>exact Heap.IsList.at x e
 |tup=>obtain⟨o,ho,r⟩:=x; exact⟨o,e o ho,r⟩
theorem RK.It.obj{k:RK}{h:Heap}{it a:Addr}{i:Nat}(x:k.It h it a i):∃ o,h.get? it=some o∧∀ v,o.data≠.cell v:=by
 cases k with
 |lst=>obtain⟨o,ho,_,d⟩:=x; exact⟨o,ho,fun v z=>by rw[d]at z; cases z⟩
 |tup=>obtain⟨o,ho,_,d⟩:=x; exact⟨o,ho,fun v z=>by rw[d]at z; cases z⟩
section
variable {prog:Program}{w:World}{A:Around}{E:Value→Shared→Prop}{s:Shared}
theorem draw_some{k:RK}{it a:Addr}{i:Nat}{xs:Array Value}{x:Value}{Q:Value→Shared→Prop}(hi:k.It s.heap it a i)(hs:k.Sq s.heap a xs)(hx:xs[i]?=some x)
  (hQ:∀ h',k.It h' it a (i+1)→(∀ b o,b≠it→s.heap.get? b=some o→h'.get? b=some o)→h'.objs.size=s.heap.objs.size→Q x { s with heap:=h' }):wpAny (model prog w) A (Builtin.SmallTypes.nextOf (.ref it)) Q E s:=by
 cases k with
 |lst=>exact wpAny_nextOf_list_item hi hs hx fun h' a1 a2=>hQ h' a1 a2.extBut a2.1
 |tup=>
  obtain⟨o,e1,e2,e3⟩:=id hi
  obtain⟨q,f1,_,m,f2⟩:=hs
  unfold Builtin.SmallTypes.nextOf
  refine wpAny_bind (wpAny_callSpecial?_slot (name:=Str.ofString "__next__") (Heap.IsTupleIter.typeIs hi) F.slot_tuple_iterator_next (wpAny_call_entry F.slot_tuple_iterator_next (Heap.IsTupleIter.typeIs hi) F.entry_tuple_iterator_next ?_ (F.args_tuple_iterator_next_1 _)))
  show wpAny _ _ (field (.ref it) 0 >>= _) _ _ _
  refine wpAny_bind (wpAny_field e1 e3 (x:=.ref a) rfl ?_)
  show wpAny _ _ (if (Value.ref a==Value.none)=true then _ else _) _ _ _
  rw[if_neg (show ¬ ((Value.ref a==Value.none)=true) from fun z=>nomatch z)]
  show wpAny _ _ (field (.ref it) 1 >>= _) _ _ _
  refine wpAny_bind (wpAny_field e1 e3 (x:=.int i 0) rfl ?_)
  show wpAny _ _ (seqItems? (.ref a) >>= _) _ _ _
  refine wpAny_bind (wpAny_seqItems f1 f2 ?_)
  simp only[Int.toNat_natCast,hx]
  refine wpAny_bind (wpAny_setField e1 e3 (by simp) (wpAny_pure ⟨x,rfl,wpAny_pure (hQ _ ?_ (Heap.SameBut.update ..).extBut (Heap.SameBut.update ..).1)⟩))
  exact⟨_,Heap.get?_update_self _ e1 (Obj.isFreed_of_fields (Obj.data_mapFields e3 _)),(Obj.cls_mapFields ..).trans e2,by rw[Obj.data_mapFields e3]; simp[rawInt]⟩
theorem draw_none{k:RK}{it a:Addr}{i:Nat}{xs:Array Value}{Q:Value→Shared→Prop}(hh:A.handled=none)(hi:k.It s.heap it a i)(hs:k.Sq s.heap a xs)(hx:xs[i]?=none)
  (hE:∀ h' e,(∀ b o,b≠it→s.heap.get? b=some o→h'.get? b=some o)→(∃ o,h'.get? e=some o∧o.cls=.type "StopIteration")→E (.ref e) { s with heap:=h' }):wpAny (model prog w) A (Builtin.SmallTypes.nextOf (.ref it)) Q E s:=by
 cases k with
 |lst=>exact wpAny_nextOf_list_end hh hi hs hx fun h' e a1 a2=>hE h' e a1 a2
 |tup=>
  obtain⟨o,e1,e2,e3⟩:=id hi
  obtain⟨q,f1,_,m,f2⟩:=hs
  unfold Builtin.SmallTypes.nextOf
  refine wpAny_bind (wpAny_callSpecial?_slot (name:=Str.ofString "__next__") (Heap.IsTupleIter.typeIs hi) F.slot_tuple_iterator_next (wpAny_call_entry F.slot_tuple_iterator_next (Heap.IsTupleIter.typeIs hi) F.entry_tuple_iterator_next ?_ (F.args_tuple_iterator_next_1 _)))
  show wpAny _ _ (field (.ref it) 0 >>= _) _ _ _
  refine wpAny_bind (wpAny_field e1 e3 (x:=.ref a) rfl ?_)
  show wpAny _ _ (if (Value.ref a==Value.none)=true then _ else _) _ _ _
  rw[if_neg (show ¬ ((Value.ref a==Value.none)=true) from fun z=>nomatch z)]
  show wpAny _ _ (field (.ref it) 1 >>= _) _ _ _
  refine wpAny_bind (wpAny_field e1 e3 (x:=.int i 0) rfl ?_)
  show wpAny _ _ (seqItems? (.ref a) >>= _) _ _ _
  refine wpAny_bind (wpAny_seqItems f1 f2 ?_)
  simp only[Int.toNat_natCast,hx]
  refine wpAny_bind (wpAny_rule (wpAny_bind (wpAny_setField e1 e3 (by simp) ?_))); show wpAny _ _ (newExc (.type "StopIteration") [] >>= _) _ _ _
  refine wpAny_bind ?_; simp only[newExc,newTuple]
  refine wpAny_bind (wpAny_newObj_type ?_ (by size_fits)); refine wpAny_bind (m:=firstArgMember _ _) (wpAny_of_eq (a:=Value.none) (by first|rfl|(simp only[firstArgMember]; rfl)) ?_)
  refine wpAny_newObj_type ?_ (by size_fits); simp only[raiseNew]
  refine wpAny_bind (wpAny_handled ?_)
  first|rw[show A.in1.handled=none from hh]|(rw[hh])
  refine wpAny_bind (wpAny_pure (wpAny_throw ?_))
  exact hE _ _ (((Heap.SameBut.update ..).extBut.push _).push _) ⟨_,Heap.get?_push_size _ rfl,by rfl⟩
end
section
variable {prog:Program}{w:World}{A:Around}{E:Value→Shared→Prop}{s:Shared}
theorem pair_put{T:Addr}{a b x:Value}{j:Nat}{Q:Unit→Shared→Prop}(hT:IsPair s.heap T a b)
  (h:∀ h',h'.get? T=some { cls:=.type "tuple",data:=.seq ((#[a,b]:Array Value).setIfInBounds j x) }→(∀ c o,c≠T→s.heap.get? c=some o→h'.get? c=some o)→h'.objs.size=s.heap.objs.size→Q () { s with heap:=h' }) :
  wpAny (model prog w) A (updateSeq T (·.setIfInBounds j x)) Q E s:=
 wpAny_updateSeq_pair hT fun h' a1 a2=>h h' a1 a2.extBut a2.1
theorem zip_get{n l1 l2:Nat}{k1 k2:RK}{i:Nat}{xs ys:Array Value}{x y a b:Value}{Q:Option Value→Shared→Prop}(n1:l1<n)(n2:l2<n)
  (hz:IsZip s.heap (n+4) (n+2) (n+3) .none) (hI:IsPair s.heap (n+2) (.ref n) (.ref (n+1))) (hO:IsPair s.heap (n+3) a b) (h1:k1.It s.heap n l1 i) (h2:k2.It s.heap (n+1) l2 i) (s1:k1.Sq s.heap l1 xs) (s2:k2.Sq s.heap l2 ys) (hx:xs[i]?=some x) (hy:ys[i]?=some y)
  (hQ:∀ h',IsZip h' (n+4) (n+2) (n+3) (rawInt s.heap.objs.size)→IsPair h' (n+2) (.ref n) (.ref (n+1))→IsPair h' (n+3) x y→k1.It h' n l1 (i+1)→k2.It h' (n+1) l2 (i+1)→IsPair h' s.heap.objs.size x y→
   (∀ c o,c≠n+4→c≠n+3→c≠n→c≠n+1→s.heap.get? c=some o→h'.get? c=some o)→Q (some (.ref s.heap.objs.size)) { s with heap:=h' }) :
  wpAny (model prog w) A (pyNext (.ref (n+4))) Q E s:=by
 have hT:s.TypeIs (.ref (n+4)) "zip":=⟨_,hz,rfl⟩
 unfold pyNext
 refine wpAny_bind (wpAny_attempt (wpAny_callSpecial?_slot (name:=Str.ofString "__next__") hT F.slot_zip_next (wpAny_call_entry F.slot_zip_next hT F.entry_zip_next ?_ (F.args_zip_next_1 _))))
 show wpAny _ _ (field (.ref (n+4)) 2 >>= _) _ _ _
 refine wpAny_bind (wpAny_field hz rfl (x:=.bool false) rfl ?_)
 show wpAny _ _ (field (.ref (n+4)) 3 >>= _) _ _ _
 refine wpAny_bind (wpAny_field hz rfl (x:=.ref (n+2)) rfl ?_)
 refine wpAny_bind (wpAny_seqItems hI rfl ?_)
 show wpAny _ _ (Builtin.SmallTypes.ownedTupleIsFree (.ref (n+4)) >>= _) _ _ _
 refine wpAny_bind ?_
 unfold Builtin.SmallTypes.ownedTupleIsFree
 refine wpAny_bind (wpAny_field hz rfl (x:=.none) rfl (wpAny_pure ?_))
 simp only[if_true]
 refine wpAny_bind (wpAny_rule ?_)
 refine wpAny_bind (wpAny_field hz rfl (x:=.ref (n+3)) rfl ?_)
 refine wpAny_bind (wpAny_setField_rec hz (by simp) fun g1 z1 u1=>?_)
 replace z1:IsZip g1 (n+4) (n+2) (n+3) .ellipsis:=z1
 have v1:=u1.extBut
 refine wpAny_bind ?_
 simp only[List.zipIdx_cons,List.zipIdx_nil,List.forIn_cons,List.forIn_nil]
 refine wpAny_bind (wpAny_bind (wpAny_onRaise ?_)); show wpAny _ _ (Builtin.SmallTypes.nextOf (.ref n) >>= _) _ _ _
 refine wpAny_bind (draw_some (s:={ s with heap:=g1 }) (h1.on fun o e=>v1 _ o (by show @Ne Nat _ _; omega) e) (s1.on fun o e=>v1 _ o (by show @Ne Nat _ _; omega) e) hx fun g2 i2 v2 c2=>wpAny_pure ?_)
 have O2:IsPair g2 (n+3) a b:=v2 _ _ (by show @Ne Nat _ _; omega) (v1 _ _ (by show @Ne Nat _ _; omega) hO)
 refine wpAny_bind (wpAny_seqItems O2 rfl ?_)
 refine wpAny_bind (pair_put O2 fun g3 O3 v3 c3=>?_)
 replace O3:IsPair g3 (n+3) x b:=O3
 refine wpAny_bind (wpAny_letGo (wpAny_pure ?_))
 refine wpAny_bind (wpAny_bind (wpAny_onRaise ?_)); show wpAny _ _ (Builtin.SmallTypes.nextOf (.ref (n+1)) >>= _) _ _ _
 refine wpAny_bind (draw_some (s:={ s with heap:=g3 }) (h2.on fun o e=>v3 _ o (by show @Ne Nat _ _; omega) (v2 _ o (by show @Ne Nat _ _; omega) (v1 _ o (by show @Ne Nat _ _; omega) e))) (s2.on fun o e=>v3 _ o (by show @Ne Nat _ _; omega) (v2 _ o (by show @Ne Nat _ _; omega) (v1 _ o (by show @Ne Nat _ _; omega) e))) hy fun g4 i4 v4 c4=>wpAny_pure ?_)
 have O4:IsPair g4 (n+3) x b:=v4 _ _ (by show @Ne Nat _ _; omega) O3
 refine wpAny_bind (wpAny_seqItems O4 rfl ?_)
 refine wpAny_bind (pair_put O4 fun g5 O5 v5 c5=>?_)
 replace O5:IsPair g5 (n+3) x y:=O5
 refine wpAny_bind (wpAny_letGo (wpAny_pure (wpAny_pure ?_)))
 refine wpAny_bind (wpAny_seqItems O5 rfl ?_)
 refine wpAny_bind (wpAny_newTuple ?_)
 have sz:g5.objs.size=s.heap.objs.size:=c5.trans (c4.trans (c3.trans (c2.trans u1.1)))
 have z5:IsZip g5 (n+4) (n+2) (n+3) .ellipsis:=v5 _ _ (by show @Ne Nat _ _; omega) (v4 _ _ (by show @Ne Nat _ _; omega) (v3 _ _ (by show @Ne Nat _ _; omega) (v2 _ _ (by show @Ne Nat _ _; omega) z1)))
 have up5:∀ c o,c≠n+4→c≠n+3→c≠n→c≠n+1→s.heap.get? c=some o→g5.get? c=some o:=fun c o c1 c2 c3 c4 e=>v5 _ _ c2 (v4 _ _ c4 (v3 _ _ c2 (v2 _ _ c3 (v1 _ _ c1 e))))
 have j1:k1.It g5 n l1 (i+1):=i2.on fun o e=>v5 _ o (by show @Ne Nat _ _; omega) (v4 _ o (by show @Ne Nat _ _; omega) (v3 _ o (by show @Ne Nat _ _; omega) e))
 have j2:k2.It g5 (n+1) l2 (i+1):=i4.on fun o e=>v5 _ o (by show @Ne Nat _ _; omega) e
 have lz:n+4<g5.objs.size:=Heap.lt_size z5
 show wpAny _ _ (Builtin.SmallTypes.ownedTupleHandOut (.ref (n+4)) (.ref g5.objs.size) >>= _) _ _ _
 refine wpAny_bind ?_
 unfold Builtin.SmallTypes.ownedTupleHandOut
 have z6:IsZip (g5.push { cls:=.type "tuple",data:=.seq #[x,y] }) (n+4) (n+2) (n+3) .ellipsis:=Heap.get?_push_of_some _ z5
 refine wpAny_bind (wpAny_setField_rec z6 (by simp) fun g7 z7 u7=>?_)
 replace z7:IsZip g7 (n+4) (n+2) (n+3) (rawInt g5.objs.size):=z7
 refine wpAny_setField_rec z7 (by simp) fun g8 z8 u8=>?_
 replace z8:IsZip g8 (n+4) (n+2) (n+3) (rawInt g5.objs.size):=z8
 have up:∀ c o,c≠n+4→g5.get? c=some o→g8.get? c=some o:=fun c o c1 e=>u8.extBut _ _ c1 (u7.extBut _ _ c1 (Heap.get?_push_of_some _ e))
 have t8:IsPair g8 g5.objs.size x y:=u8.extBut _ _ (Nat.ne_of_gt lz) (u7.extBut _ _ (Nat.ne_of_gt lz) (Heap.get?_push_size _ rfl))
 rw[sz]at z8 t8
 refine wpAny_pure ⟨_,rfl,wpAny_pure ?_⟩
 show Q (some (.ref g5.objs.size)) _
 rw[sz]
 exact hQ g8 z8 (up _ _ (by show @Ne Nat _ _; omega) (up5 _ _ (by show @Ne Nat _ _; omega) (by show @Ne Nat _ _; omega) (by show @Ne Nat _ _; omega) (by show @Ne Nat _ _; omega) hI)) (up _ _ (by show @Ne Nat _ _; omega) O5) (j1.on fun o e=>up _ o (by show @Ne Nat _ _; omega) e) (j2.on fun o e=>up _ o (by show @Ne Nat _ _; omega) e) t8 fun c o c1 c2 c3 c4 e=>up c o c1 (up5 c o c1 c2 c3 c4 e)
theorem zip_over{n l1 l2:Nat}{k1 k2:RK}{i:Nat}{xs ys:Array Value}{a b:Value}{Q:Option Value→Shared→Prop}(hh:A.handled=none)(n1:l1<n)(n2:l2<n)
  (hz:IsZip s.heap (n+4) (n+2) (n+3) .none) (hI:IsPair s.heap (n+2) (.ref n) (.ref (n+1))) (hO:IsPair s.heap (n+3) a b) (h1:k1.It s.heap n l1 i) (h2:k2.It s.heap (n+1) l2 i) (s1:k1.Sq s.heap l1 xs) (s2:k2.Sq s.heap l2 ys) (hend:xs[i]?=none∨ys[i]?=none)
  (hQ:∀ h',(∀ c o,c≠n+4→c≠n+3→c≠n→c≠n+1→s.heap.get? c=some o→h'.get? c=some o)→Q none { s with heap:=h' }) :
  wpAny (model prog w) A (pyNext (.ref (n+4))) Q E s:=by
 have hT:s.TypeIs (.ref (n+4)) "zip":=⟨_,hz,rfl⟩
 have fin:∀ (h':Heap) (e:Addr),(∀ c o,c≠n+4→c≠n+3→c≠n→c≠n+1→s.heap.get? c=some o→h'.get? c=some o)→(∃ o,h'.get? e=some o∧o.cls=.type "StopIteration")→
   wpAny (model prog w) A (do if (← isInstance (.ref e) (.type "StopIteration")) then pure none else(throw (Value.ref e):Sem (Option Value))) Q E { s with heap:=h' }:=fun h' e hk he=>by
  obtain⟨o,ho,hc⟩:=he
  refine wpAny_bind (wpAny_isInstance (T:="StopIteration") (b:=true) ⟨o,ho,hc⟩ isSubtype_stop ?_)
  exact wpAny_pure (hQ _ hk)
 unfold pyNext
 refine wpAny_bind (wpAny_attempt (wpAny_callSpecial?_slot (name:=Str.ofString "__next__") hT F.slot_zip_next (wpAny_call_entry F.slot_zip_next hT F.entry_zip_next ?_ (F.args_zip_next_1 _))))
 show wpAny _ _ (field (.ref (n+4)) 2 >>= _) _ _ _
 refine wpAny_bind (wpAny_field hz rfl (x:=.bool false) rfl ?_)
 show wpAny _ _ (field (.ref (n+4)) 3 >>= _) _ _ _
 refine wpAny_bind (wpAny_field hz rfl (x:=.ref (n+2)) rfl ?_)
 refine wpAny_bind (wpAny_seqItems hI rfl ?_)
 show wpAny _ _ (Builtin.SmallTypes.ownedTupleIsFree (.ref (n+4)) >>= _) _ _ _
 refine wpAny_bind ?_
 unfold Builtin.SmallTypes.ownedTupleIsFree
 refine wpAny_bind (wpAny_field hz rfl (x:=.none) rfl (wpAny_pure ?_))
 simp only[if_true]
 refine wpAny_bind (wpAny_rule ?_)
 refine wpAny_bind (wpAny_field hz rfl (x:=.ref (n+3)) rfl ?_)
 refine wpAny_bind (wpAny_setField_rec hz (by simp) fun g1 z1 u1=>?_)
 replace z1:IsZip g1 (n+4) (n+2) (n+3) .ellipsis:=z1
 have v1:=u1.extBut
 refine wpAny_bind ?_
 simp only[List.zipIdx_cons,List.zipIdx_nil,List.forIn_cons,List.forIn_nil]
 refine wpAny_bind (wpAny_bind (wpAny_onRaise ?_)); show wpAny _ _ (Builtin.SmallTypes.nextOf (.ref n) >>= _) _ _ _
 cases hx:xs[i]? with
 |none=>
  refine wpAny_bind (draw_none (s:={ s with heap:=g1 }) hh (h1.on fun o e=>v1 _ o (by show @Ne Nat _ _; omega) e) (s1.on fun o e=>v1 _ o (by show @Ne Nat _ _; omega) e) hx fun g2 e v2 he=>?_)
  obtain⟨oe,ho,hc⟩:=he
  have z2:IsZip g2 (n+4) (n+2) (n+3) .ellipsis:=v2 _ _ (by show @Ne Nat _ _; omega) z1
  have ez:e≠n+4:=fun q=>by subst q; rw[z2]at ho; cases ho; simp at hc
  exact wpAny_setField_rec z2 (by simp) fun g3 _ u3=>fin g3 e (fun c o c1 _ c3 _ q=>u3.extBut _ _ c1 (v2 _ _ c3 (v1 _ _ c1 q))) ⟨oe,u3.extBut _ _ ez ho,hc⟩
 |some x=>
  have hy:ys[i]?=none:=by
   rcases hend with h|h
   ·rw[hx]at h; cases h
   ·exact h
  refine wpAny_bind (draw_some (s:={ s with heap:=g1 }) (h1.on fun o e=>v1 _ o (by show @Ne Nat _ _; omega) e) (s1.on fun o e=>v1 _ o (by show @Ne Nat _ _; omega) e) hx fun g2 i2 v2 c2=>wpAny_pure ?_)
  have O2:IsPair g2 (n+3) a b:=v2 _ _ (by show @Ne Nat _ _; omega) (v1 _ _ (by show @Ne Nat _ _; omega) hO)
  refine wpAny_bind (wpAny_seqItems O2 rfl ?_)
  refine wpAny_bind (pair_put O2 fun g3 O3 v3 c3=>?_)
  refine wpAny_bind (wpAny_letGo (wpAny_pure ?_))
  refine wpAny_bind (wpAny_bind (wpAny_onRaise ?_)); show wpAny _ _ (Builtin.SmallTypes.nextOf (.ref (n+1)) >>= _) _ _ _
  refine wpAny_bind (draw_none (s:={ s with heap:=g3 }) hh (h2.on fun o e=>v3 _ o (by show @Ne Nat _ _; omega) (v2 _ o (by show @Ne Nat _ _; omega) (v1 _ o (by show @Ne Nat _ _; omega) e))) (s2.on fun o e=>v3 _ o (by show @Ne Nat _ _; omega) (v2 _ o (by show @Ne Nat _ _; omega) (v1 _ o (by show @Ne Nat _ _; omega) e))) hy fun g4 e v4 he=>?_)
  obtain⟨oe,ho,hc⟩:=he
  have z4:IsZip g4 (n+4) (n+2) (n+3) .ellipsis:=v4 _ _ (by show @Ne Nat _ _; omega) (v3 _ _ (by show @Ne Nat _ _; omega) (v2 _ _ (by show @Ne Nat _ _; omega) z1))
  have ez:e≠n+4:=fun q=>by subst q; rw[z4]at ho; cases ho; simp at hc
  exact wpAny_setField_rec z4 (by simp) fun g5 _ u5=>fin g5 e (fun c o c1 c2 c3 c4 q=>u5.extBut _ _ c1 (v4 _ _ c4 (v3 _ _ c2 (v2 _ _ c3 (v1 _ _ c1 q))))) ⟨oe,u5.extBut _ _ ez ho,hc⟩
end
noncomputable def RK.itO(k:RK)(a:Addr):Obj:=match k with
 |.lst=>{ cls:=.type "list_iterator",data:=.fields #[.ref a,.int 0 0] }
 |.tup=>{ cls:=.type "tuple_iterator",data:=.fields #[.ref a,.int 0 0] }
theorem row_iter{prog:Program}{w:World}{A:Around}{E:Value→Shared→Prop}{s:Shared}{k:RK}{a:Addr}{xs:Array Value}{Q:Value→Shared→Prop}(hs:k.Sq s.heap a xs)(hQ:Q (.ref s.heap.objs.size) { s with heap:=s.heap.push (k.itO a) }):wpAny (model prog w) A (pyIter (.ref a)) Q E s:=by
 cases k with
 |lst=>exact wpAny_pyIter_list hs hQ
 |tup=>exact wpAny_pyIter_tuple hs hQ
theorem row_new{h:Heap}{k:RK}{a:Addr}:k.It (h.push (k.itO a)) h.objs.size a 0:=by
 cases k with
 |lst=>exact⟨_,Heap.get?_push_size _ rfl,rfl,rfl⟩
 |tup=>exact⟨_,Heap.get?_push_size _ rfl,rfl,rfl⟩
noncomputable abbrev zh1(k1:RK)(h:Heap)(l1:Addr):Heap:=h.push (k1.itO l1)
noncomputable abbrev zh2(k1 k2:RK)(h:Heap)(l1 l2:Addr):Heap:=(zh1 k1 h l1).push (k2.itO l2)
noncomputable abbrev zh3(k1 k2:RK)(h:Heap)(l1 l2:Addr):Heap:=(zh2 k1 k2 h l1 l2).push { cls:=.type "tuple",data:=.seq #[.ref h.objs.size,.ref (zh1 k1 h l1).objs.size] }
noncomputable abbrev zh4(k1 k2:RK)(h:Heap)(l1 l2:Addr):Heap:=(zh3 k1 k2 h l1 l2).push { cls:=.type "tuple",data:=.seq #[.none,.none] }
noncomputable abbrev zh5(k1 k2:RK)(h:Heap)(l1 l2:Addr):Heap:=(zh4 k1 k2 h l1 l2).push { cls:=.type "zip",data:=.fields #[.none,.bool false,.bool false,.ref (zh2 k1 k2 h l1 l2).objs.size,.ref (zh3 k1 k2 h l1 l2).objs.size] }
theorem zip_made(k1 k2:RK)(l1 l2:Addr)(xs ys:Array Value):Meets (Builtin.«zip.__new__» ⟨[.type "zip",.ref l1,.ref l2],[]⟩) (fun _ R s=>k1.Sq s.heap l1 xs∧k2.Sq s.heap l2 ys∧R (.ok (.ret (.ref (zh4 k1 k2 s.heap l1 l2).objs.size))) { s with heap:=zh5 k1 k2 s.heap l1 l2 }):=
 .of_wp fun prog w A R s h=>by
  obtain⟨hp,g,d,tk,os⟩:=s
  obtain⟨q1,q2,h⟩:=h
  have hsub:=sub_zip
  have L1:k1.Sq (Shared.heap ⟨hp,g,d,tk,os⟩) l1 xs:=q1
  have L2:k2.Sq (Shared.heap ⟨hp.push (k1.itO l1),g,d,tk,os⟩) l2 ys:=q2.on fun o e=>Heap.get?_push_of_some _ e
  wp_walk using row_iter L1,row_iter L2
  exact⟨_,rfl,h⟩
def ZipAt(k1 k2:RK)(n l1 l2:Nat)(i:Nat)(h:Heap):Prop:=
 l1<n∧l2<n∧IsZip h (n+4) (n+2) (n+3) .none∧IsPair h (n+2) (.ref n) (.ref (n+1))∧(∃ a b,IsPair h (n+3) a b)∧k1.It h n l1 i∧k2.It h (n+1) l2 i
theorem call_zipK{prog:Program}{w:World}{A:Around}{E:Value→Shared→Prop}{s:Shared}{k1 k2:RK}{l1 l2:Nat}{xs ys:Array Value}{Q:Value→Shared→Prop}(q1:k1.Sq s.heap l1 xs)(q2:k2.Sq s.heap l2 ys)(b1:l1<s.heap.objs.size)(b2:l2<s.heap.objs.size)
  (h:∀ h',ZipAt k1 k2 s.heap.objs.size l1 l2 0 h'→(∀ c o,s.heap.get? c=some o→h'.get? c=some o)→Q (.ref (s.heap.objs.size+4)) { s with heap:=h' }):wpAny (model prog w) A (call (.type "zip") [.ref l1,.ref l2]) Q E s:=by
 refine callType_new F.called_zip (by decide) (F.typeCall_zip_2 _ _) (F.newCall_zip_2 _ _) (fun obj=>F.args_object_init_3 obj _ _) F.entry_zip_new (zip_made k1 k2 l1 l2 xs ys) ⟨q1,q2,?_⟩
 have z1:(zh1 k1 s.heap l1).objs.size=s.heap.objs.size+1:=Heap.size_push ..
 have z2:(zh2 k1 k2 s.heap l1 l2).objs.size=s.heap.objs.size+2:=by rw[Heap.size_push,z1]
 have z3:(zh3 k1 k2 s.heap l1 l2).objs.size=s.heap.objs.size+3:=by rw[Heap.size_push,z2]
 have z4:(zh4 k1 k2 s.heap l1 l2).objs.size=s.heap.objs.size+4:=by rw[Heap.size_push,z3]
 have g5:(zh5 k1 k2 s.heap l1 l2).get? (zh4 k1 k2 s.heap l1 l2).objs.size=some _:=Heap.get?_push_size _ rfl
 have g4:(zh5 k1 k2 s.heap l1 l2).get? (zh3 k1 k2 s.heap l1 l2).objs.size=some _:=Heap.get?_push_of_some _ (Heap.get?_push_size _ rfl)
 have g3:(zh5 k1 k2 s.heap l1 l2).get? (zh2 k1 k2 s.heap l1 l2).objs.size=some _:=Heap.get?_push_of_some _ (Heap.get?_push_of_some _ (Heap.get?_push_size _ rfl))
 have g2:k2.It (zh5 k1 k2 s.heap l1 l2) (zh1 k1 s.heap l1).objs.size l2 0:=row_new.on fun o e=>Heap.get?_push_of_some _ (Heap.get?_push_of_some _ (Heap.get?_push_of_some _ e))
 have g1:k1.It (zh5 k1 k2 s.heap l1 l2) s.heap.objs.size l1 0:=row_new.on fun o e=>Heap.get?_push_of_some _ (Heap.get?_push_of_some _ (Heap.get?_push_of_some _ (Heap.get?_push_of_some _ e)))
 show _∧_
 rw[z2,z3,z4]at g5
 rw[z1,z2]at g3
 rw[z3]at g4
 rw[z1]at g2
 rw[z4]
 exact⟨⟨_,g5,rfl⟩,h _ ⟨b1,b2,g5,g3,⟨_,_,g4⟩,g1,g2⟩ fun c o x=>Heap.get?_push_of_some _ (Heap.get?_push_of_some _ (Heap.get?_push_of_some _ (Heap.get?_push_of_some _ (Heap.get?_push_of_some _ x))))⟩
def RK.sq(k:RK)(K:PySem.W.Frag)(H:Hp)(a:Addr)(xs:List V):Prop:=match k with
 |.lst=>SqL K H a xs
 |.tup=>SqT K H a xs
noncomputable def Itz(K:PySem.W.Frag)(k1 k2:RK)(a b:Addr):It:=
 ⟨fun i H=>∃ xs ys x y,k1.sq K H a xs∧k2.sq K H b ys∧xs[i]?=some x∧ys[i]?=some y,
  fun i H v H'=>∃ p x y,v=.ref p∧H p=none∧H'=upd H p (.tup [x,y])∧(∀ xs,k1.sq K H a xs→xs[i]?=some x)∧∀ ys,k2.sq K H b ys→ys[i]?=some y,
  fun i H=>∃ xs ys,k1.sq K H a xs∧k2.sq K H b ys∧(xs.length≤i∨ys.length≤i)⟩
section
variable {X:Cx}{pins:List (Addr×Obj)}{σ:L2.St}{H:Hp}{s:Shared}
theorem row_of{k:RK}{a:Addr}{xs:List V}(I:Inv X pins σ H s)(q:k.sq X.K H a xs):∃ its,Vals xs its∧k.Sq s.heap a its.toArray:=by
 cases k with
 |lst=>obtain⟨its,rv,p,hz⟩:=I.list q; exact⟨its,rv,p.isList⟩
 |tup=>obtain⟨its,rv,p,hz⟩:=I.tuple q; exact⟨its,rv,show s.heap.IsTuple a its.toArray from p⟩
theorem row_inj{k:RK}{a:Addr}{xs ys:List V}(I:Inv X pins σ H s)(q:k.sq X.K H a xs)(q':k.sq X.K H a ys):xs=ys:=by
 cases k with
 |lst=>exact I.list_inj q q'
 |tup=>exact I.tuple_inj q q'
end
noncomputable def fpZ(n:Nat):List Addr:=[n+4,n+2,n+3,n,n+1]
theorem turn_zip{P:Program}{w:World}{K:PySem.W.Frag}{elts:List Expr}{c:Nat}{pos:Pos}(k1 k2:RK)(n a b:Nat):Turn P w K (.Tuple elts c pos) (Itz K k1 k2 a b) (fpZ n) (n+4) (ZipAt k1 k2 n a b) where
 mem:=by simp[fpZ]
 obj:=fun i h st e he=>by
  obtain⟨b1,b2,hz,hI,⟨x,y,hO⟩,h1,h2⟩:=st
  simp only[fpZ,List.mem_cons,List.not_mem_nil,or_false]at he
  rcases he with rfl|rfl|rfl|rfl|rfl
  ·exact⟨_,hz,fun v z=>nomatch z⟩
  ·exact⟨_,hI,fun v z=>nomatch z⟩
  ·exact⟨_,hO,fun v z=>nomatch z⟩
  ·exact h1.obj
  ·exact h2.obj
 keep:=fun i h h' st k=>by
  obtain⟨b1,b2,hz,hI,⟨x,y,hO⟩,h1,h2⟩:=st
  exact⟨b1,b2,k _ (by simp[fpZ]) _ hz,k _ (by simp[fpZ]) _ hI,⟨x,y,k _ (by simp[fpZ]) _ hO⟩,h1.on fun o e=>k _ (by simp[fpZ]) o e,h2.on fun o e=>k _ (by simp[fpZ]) o e⟩
 item:=by
  intro X hP hw hK hc i pins s σ H E I hf st hg
  subst hP hw hK
  obtain⟨xs,ys,x,y,qx,qy,ex,ey⟩:=hg
  obtain⟨b1,b2,hz,hI,⟨ua,ub,hO⟩,h1,h2⟩:=st
  obtain⟨vx,rx,sx⟩:=row_of I qx
  obtain⟨vy,ry,sy⟩:=row_of I qy
  obtain⟨u1,hu1,ru1⟩:=rx.get ex
  obtain⟨u2,hu2,ru2⟩:=ry.get ey
  refine zip_get b1 b2 hz hI hO h1 h2 sx sy (x:=u1) (y:=u2) (by simpa using hu1) (by simpa using hu2) fun h' a1 a2 a3 a4 a5 a6 kp=>⟨_,rfl,?_⟩
  refine wpAny_letOwnedTupleGo_zip (s:={ s with heap:=h' }) a1 fun h9 c1 c2=>?_
  have ex2:=c2.extBut
  have lt:∀ b∈fpZ n,b≠s.heap.objs.size:=fun b hb z=>by
   have q:b<s.heap.objs.size:=by
    simp only[fpZ,List.mem_cons,List.not_mem_nil,or_false]at hb
    rcases hb with rfl|rfl|rfl|rfl|rfl
    ·exact Heap.lt_size hz
    ·exact Heap.lt_size hI
    ·exact Heap.lt_size hO
    ·obtain⟨o,e,_⟩:=h1.obj; exact Heap.lt_size e
    ·obtain⟨o,e,_⟩:=h2.obj; exact Heap.lt_size e
   rw[z]at q
   exact Nat.lt_irrefl _ q
  have nz:s.heap.objs.size≠n+4:=fun z=>lt (n+4) (by simp[fpZ]) z.symm
  have I1:Inv X pins σ H { s with heap:=h9,toks:=s.toks }:=Inv.turnedL (ch:=fpZ n) I (fun b o hb e=>ex2 _ _ (fun z=>hb (by simp[fpZ,z])) (kp b o (fun z=>hb (by simp[fpZ,z])) (fun z=>hb (by simp[fpZ,z])) (fun z=>hb (by simp[fpZ,z])) (fun z=>hb (by simp[fpZ,z])) e)) hf
  have fr:H s.heap.objs.size=none:=I.hok.fresh (Nat.le_refl _)
  have I2:Inv X pins σ (upd H s.heap.objs.size (.tup [x,y])) { s with heap:=h9,toks:=s.toks }:=Inv.track I1 (I.fpOk (Nat.le_refl _) fr) ⟨by show 2≤sizeLine; decide,[u1,u2],.cons ru1 (.cons ru2 .nil),⟨_,ex2 _ _ nz a6,rfl,_,rfl⟩⟩
  refine⟨.ref s.heap.objs.size,upd H s.heap.objs.size (.tup [x,y]),I2,rfl,⟨_,x,y,rfl,fr,rfl,fun zs hz'=>?_,fun zs hz'=>?_⟩,⟨b1,b2,c1,ex2 _ _ (by show @Ne Nat _ _; omega) a2,⟨_,_,ex2 _ _ (by show @Ne Nat _ _; omega) a3⟩,a4.on fun o e=>ex2 _ o (by show @Ne Nat _ _; omega) e,a5.on fun o e=>ex2 _ o (by show @Ne Nat _ _; omega) e⟩,fun b hb=>?_⟩
  ·rw[row_inj I hz' qx]; exact ex
  ·rw[row_inj I hz' qy]; exact ey
  ·rw[upd_ne (lt b hb)]; exact(hf b hb).1
 done:=by
  intro X hP hw hK hc i pins s σ H E I hf st hg
  subst hP hw hK
  obtain⟨xs,ys,qx,qy,hend⟩:=hg
  obtain⟨b1,b2,hz,hI,⟨ua,ub,hO⟩,h1,h2⟩:=st
  obtain⟨vx,rx,sx⟩:=row_of I qx
  obtain⟨vy,ry,sy⟩:=row_of I qy
  have lx:=rx.length
  have ly:=ry.length
  refine zip_over (I.ok.hd hc) b1 b2 hz hI hO h1 h2 sx sy ?_ fun h' kp=>⟨rfl,Inv.turnedL (ch:=fpZ n) I (fun b o hb e=>kp b o (fun z=>hb (by simp[fpZ,z])) (fun z=>hb (by simp[fpZ,z])) (fun z=>hb (by simp[fpZ,z])) (fun z=>hb (by simp[fpZ,z])) e) hf⟩
  rcases hend with h|h
  ·exact .inl (by simp; omega)
  ·exact .inr (by simp; omega)
 self:=fun _ _ _ _ _ st h=>wpAny_pyIter_zip st.2.2.1 h
noncomputable def iZip(K:PySem.W.Frag)(ta:TA):TI:=fun σ H R=>ta σ H fun vs H1=>∃ (k1 k2:RK) (a b:Addr),vs=[.ref a,.ref b]∧(∃ xs,k1.sq K H1 a xs)∧(∃ ys,k2.sq K H1 b ys)∧R (Itz K k1 k2 a b) H1
theorem pi_zip{X:Cx}{a b:Expr}{ta:TA}{p pos:Pos}{elts:List Expr}{c:Nat}{tpos:Pos}(hg:Gl X "zip")(hm:X.mg "zip" = none)(ha:PA X [a,b] ta)(hs:starEach [a,b] X.env=[(false,eval a X.env),(false,eval b X.env)]:=by rfl)(hs2:starEach [b] X.env=[(false,eval b X.env)]:=by rfl):
  PI X (.Tuple elts c tpos) (.Call (.Name "zip" p) [a,b] [] pos) (iZip X.K ta):=by
 intro pins s σ H R I h
 refine Call_ (ld_blt I hg hm boot_zip (PyProof.Rows.callWith_type1 (thn (ha pos pins s σ H _ I h) fun us s1 ⟨vs,H1,I1,r1,q1⟩=>?_) (by rw[hs,hs2]) (by rw[hs2]; rfl)))
 obtain⟨k1,k2,a,b,e,⟨xs,qx⟩,⟨ys,qy⟩,q⟩:=q1
 subst e
 cases r1 with
 |cons r rr=>
  cases rr with
  |cons r' rr=>
   cases rr
   cases r
   cases r'
   obtain⟨vx,rx,sx⟩:=row_of I1 qx
   obtain⟨vy,ry,sy⟩:=row_of I1 qy
   have la:a<s1.heap.objs.size:=by
    cases k1<;>(obtain⟨o,e,_⟩:=sx; exact Heap.lt_size e)
   have lb:b<s1.heap.objs.size:=by
    cases k2<;>(obtain⟨o,e,_⟩:=sy; exact Heap.lt_size e)
   refine call_zipK sx sy la lb fun h' st kp=>?_
   refine wpAny_pyIter_zip (s:={ s1 with heap:=h' }) st.2.2.1 ?_
   refine⟨s1.heap.objs.size+4,fpZ s1.heap.objs.size,_,_,H1,rfl,I1.kept (t':=s1.toks) kp,turn_zip k1 k2 _ a b,st,fun d hd=>?_,q⟩
   have ld:s1.heap.objs.size≤d:=by
    simp only[fpZ,List.mem_cons,List.not_mem_nil,or_false]at hd
    rcases hd with rfl|rfl|rfl|rfl|rfl<;>(show @LE.le Nat _ _ _; omega)
   exact I1.fpOk ld (I1.hok.fresh ld)
end MS
end
section
namespace MS
open PySem PySem.Spec PyProof.Rows L2
section
variable {X:Cx}
theorem call_intD:CallR X (.type "int") (rC X.K M.bInt):=by
 intro pins s σ H xs us Q I r h
 refine h.el fun m st ds d st' R0 ix e q=>?_
 unfold M.bInt at e
 split at e
 ·rename_i z
  split at e
  ·rename_i hz
   cases e
   obtain⟨x,rfl,i⟩:=ix.one
   have hx:=i.str
   subst hx
   cases r with
   |cons r rr=>
    cases rr
    obtain⟨t,rfl⟩:=r
    simp only[Bool.and_eq_true,decide_eq_true_eq]at hz
    obtain⟨⟨h1,h2⟩,h3⟩:=hz
    have hd:NumText.AllDigits z.cps.toList:=fun c hc=>by
     have:=List.all_eq_true.mp h2 c hc
     unfold M.isFig at this
     simpa using this
    have hne:z.cps.toList≠[]:=fun e=>by rw[e]at h1; cases h1
    exact PySem.W.KIN.call_text (PySem.intText_digits hd hne (by omega)) h3 ⟨.int _,H,I.tok _,⟨_,rfl⟩,q.here R0 (mkInt _)⟩
  ·cases e
 ·rename_i i
  cases e
  obtain⟨x,rfl,j⟩:=ix.one
  exact call_int1 pins s σ H _ us Q I r (.inl ⟨i,by rw[j.int],q.here R0 (mkInt _)⟩)
 ·cases e
theorem call_strD:CallR X (.type "str") (rC X.K M.bStr):=by
 intro pins s σ H xs us Q I r h
 refine h.el fun m st ds d st' R0 ix e q=>?_
 unfold M.bStr at e
 split at e
 ·rename_i i
  split at e
  ·rename_i hi
   cases e
   obtain⟨x,rfl,j⟩:=ix.one
   exact call_str_int pins s σ H _ us Q I r ⟨i,by rw[j.int],hi,q.here R0 (mkStr _)⟩
  ·cases e
 ·rename_i z
  cases e
  obtain⟨x,rfl,j⟩:=ix.one
  have hx:=j.str
  subst hx
  cases r with
  |cons r1 r2=>
   cases r2
   obtain⟨t,rfl⟩:=r1
   exact P.str_of_str ⟨.str z,H,I,⟨t,rfl⟩,q.here R0 (mkStr _)⟩
 ·cases e
end
end MS
end
section
namespace MS
open PySem PySem.Spec PyProof.Rows L2
inductive EntOk (prm:Params):List DictEntry→List Str→List Value→Prop
 |nil:EntOk prm [] [] []
 |cons {k:Str}{t:Tok}{u:Value}{es:List DictEntry}{ks:List Str}{us:List Value}(h:EntOk prm es ks us):EntOk prm (⟨PyData.keyHash prm k,.str k t,u⟩::es) (k::ks) (u::us)
structure FDict (prm:Params) (K:PySem.W.Frag) (a:Addr) (ks:List Str) (ds:List M.D):Prop where
 ex:∃ (us:List Value) (vs:List V) (es:Array DictEntry) (ep:Nat),K.lookup a=some { cls:=.type "dict",data:=.dict es ep }∧EntOk prm es.toList ks us∧Vals vs us∧∀ m H,IsDs K m H ds vs
 nd:ks.Nodup
 ne:(a==sysModules)=false
section
variable {X:Cx}{b:Expr}{tb:TE}{pos p0:Pos}{x:Str}
open M (D Cell Store Sl)
end
end MS
end
section
namespace MS
open PySem PySem.Spec PyProof.Rows L2
section
variable {prog:Program}{w:World}{A:Around}{E:Value→Shared→Prop}{s:Shared}{x:Str}{t:Tok}{Q:Value→Shared→Prop}
end
section
variable {X:Cx}
inductive PEs (X:Cx):List Expr→List TE→Prop
 |nil:PEs X [] []
 |cons {p:Expr}{ps:List Expr}{t:TE}{ts:List TE}(h:PE X p t) (r:PEs X ps ts):PEs X (p::ps) (t::ts)
open M (D Cell Store Sl)
end
end MS
end
section
namespace MS
open PySem PySem.Spec PyProof.Rows L2
open M (D Cell Store Sl)
section
variable {K:PySem.W.Frag}{m m1:List Addr}{H H1:Hp}
mutual
theorem isD_nl:∀ (d:D) (v:V),M.noLoc d=true→MS.IsD K m1 H1 d v→MS.IsD K m H1 d v
 |.non,_,_,h=>by rw[h.non]; exact mkNon
 |.bl _,_,_,h=>by rw[h.bl]; exact mkBl _
 |.int _,_,_,h=>by rw[h.int]; exact mkInt _
 |.str _,_,_,h=>by rw[h.str]; exact mkStr _
 |.tup ds,_,n,h=>by
  obtain⟨a,xs,rfl,q,r⟩:=h.tup
  unfold M.noLoc at n
  exact mkTup q (isDs_nl ds xs n r)
 |.lst ds,_,n,h=>by
  obtain⟨a,xs,rfl,q,r⟩:=h.lst
  unfold M.noLoc at n
  exact mkLst q (isDs_nl ds xs n r)
 |.loc l,_,n,h=>by unfold M.noLoc at n; cases n
theorem isDs_nl:∀ (ds:List D) (xs:List V),M.noLocs ds=true→IsDs K m1 H1 ds xs→IsDs K m H1 ds xs
 |[],_,_,h=>by rw[h.nil]; exact mkNil
 |d::ds,_,n,h=>by
  obtain⟨x,r,rfl,q,t⟩:=h.cons
  unfold M.noLocs at n
  rw[Bool.and_eq_true]at n
  exact mkCons (isD_nl d x n.1 q) (isDs_nl ds r n.2 t)
end
mutual
theorem isD_back(s:Sub m m1):∀ (d:D) (v v1:V),MS.IsD K m H d v→MS.IsD K m1 H1 d v1→MS.IsD K m H1 d v1
 |.non,_,_,_,h=>by rw[h.non]; exact mkNon
 |.bl _,_,_,_,h=>by rw[h.bl]; exact mkBl _
 |.int _,_,_,_,h=>by rw[h.int]; exact mkInt _
 |.str _,_,_,_,h=>by rw[h.str]; exact mkStr _
 |.tup ds,_,_,h0,h=>by
  obtain⟨a,xs,rfl,q,r⟩:=h.tup
  obtain⟨a0,xs0,_,_,r0⟩:=h0.tup
  exact mkTup q (isDs_back s ds xs0 xs r0 r)
 |.lst ds,_,_,h0,h=>by
  obtain⟨a,xs,rfl,q,r⟩:=h.lst
  obtain⟨a0,xs0,_,_,r0⟩:=h0.lst
  exact mkLst q (isDs_back s ds xs0 xs r0 r)
 |.loc l,_,_,h0,h=>by
  obtain⟨a0,e0,_⟩:=h0.loc
  obtain⟨a,e,rfl⟩:=h.loc
  have:=s l a0 e0
  rw[e]at this
  cases this
  exact mkLoc e0
theorem isDs_back(s:Sub m m1):∀ (ds:List D) (xs xs1:List V),IsDs K m H ds xs→IsDs K m1 H1 ds xs1→IsDs K m H1 ds xs1
 |[],_,_,_,h=>by rw[h.nil]; exact mkNil
 |d::ds,_,_,h0,h=>by
  obtain⟨x,r,rfl,q,t⟩:=h.cons
  obtain⟨x0,r0,rfl,q0,t0⟩:=h0.cons
  exact mkCons (isD_back s d x0 x q0 q) (isDs_back s ds r0 r t0 t)
end
theorem isKV_back(s:Sub m m1):∀ (kvs:List (D×D)) (xs xs1:List (Key×V)),IsKV K m H kvs xs→IsKV K m1 H1 kvs xs1→IsKV K m H1 kvs xs1
 |[],_,_,_,h=>h
 |p::r,_,_,⟨k0,v0,xr0,e0,hk0,hv0,hr0⟩,⟨k,v,xr,e,hk,hv,hr⟩=>⟨k,v,xr,e,hk,isD_back s _ _ _ hv0 hv,isKV_back s r _ _ hr0 hr⟩
theorem isC_back(s:Sub m m1){c:Cell}{a:Addr}(h0:IsC K m H c a)(h:IsC K m1 H1 c a):IsC K m H1 c a:=by
 cases c with
 |lst w ds=>
  cases w with
  |true=>
   obtain⟨xs,e,q⟩:=h
   obtain⟨xs0,_,q0⟩:=h0
   exact⟨xs,e,isDs_back s _ _ _ q0 q⟩
  |false=>
   obtain⟨xs,e,q⟩:=h
   obtain⟨xs0,_,q0⟩:=h0
   exact⟨xs,e,isDs_back s _ _ _ q0 q⟩
 |dic kvs=>
  obtain⟨xs,e,q⟩:=h
  obtain⟨xs0,_,q0⟩:=h0
  exact⟨xs,e,isKV_back s _ _ _ q0 q⟩
theorem pre_at{st st0:Store}(h:st0.take st.length=st){l:Nat}{c:Cell}(e:st[l]?=some c):st0[l]?=some c:=by
 have hl:=(List.getElem?_eq_some_iff.mp e).1
 rw[← h,List.getElem?_take,if_pos hl]at e
 exact e
theorem Rel.cutBack{st st0:Store}(R0:Rel K m st H)(R1:Rel K m1 st0 H1)(s:Sub m m1)(h:st0.take st.length=st){H2:Hp}(t:Tr H1 H2)(hw:∀ (l:Nat) (c:Cell) (a:Addr),st[l]?=some c→m[l]?=some a→Wr c=true→H2 a=H1 a):Rel K m st H2:=
 ⟨R0.len,R0.nd,fun l c a e ea=>isC_mono (Sub.refl m) t (isC_back s (R0.cell l c a e ea) (R1.cell l c a (pre_at h e) (s l a ea))) fun w=>hw l c a e ea w⟩
end
section
variable {X:Cx}
theorem inv_freeze{pins:List (Addr×Obj)}{s:Shared}{σ:L2.St}{H:Hp}{a:Addr}{xs:List V}(I:Inv X pins σ H s)(h:H a=some (.lst xs)):∃ o,Inv X pins σ (upd H a (.frz o (.lst xs))) s:=by
 obtain⟨z,its,n,r,e⟩:=id (I.hok a _ h)
 refine⟨{ cls:=.type "list",data:=.seq its.toArray n },I.un (t':=s.toks) (h':=s.heap) ⟨fun b o q _ _ _=>q,fun b o q _ _ _=>⟨o.slots,q⟩,fun b o q hn _=>?_,fun b o q _=>⟨o,q⟩,fun b ys q=>?_,fun b o u q=>?_,fun b ps q=>⟨#[],?_⟩⟩ ?_⟩
 ·rw[upd_ne (fun z=>by subst z; rw[h]at hn; cases hn)]
  exact hn
 ·rw[upd_ne (ne_of q h (by intro z; cases z))]; exact q
 ·rw[upd_ne (ne_of q h (by intro z; cases z))]; exact q
 ·rw[upd_ne (ne_of q h (by intro z; cases z)),q]; simp
 ·intro b u q
  by_cases hb:b=a
  ·subst hb
   rw[upd_same]at q
   cases q
   exact⟨e,z,its,n,r,e⟩
  ·rw[upd_ne hb]at q
   refine(I.hok b u q).stay (fun c v _ w=>w) (fun c w=>?_) fun c ys w=>?_
   ·rw[upd_ne (ne_of w h (by intro z; cases z))]; exact w
   ·rw[upd_ne (ne_of w h (by intro z; cases z))]; exact w
theorem pe_gc{p:Expr}{f:Sl→Store→Option (D×Store)}(he:PE X p (tD X.K f)):PE X p (tD X.K fun τ st=>(f τ st).map fun q=>M.gcD st q):=by
 intro pins s σ H Q I h
 refine h.el fun m st τ d st' R0 S0 e q=>?_
 obtain⟨⟨d0,st0⟩,e1,e2⟩:=mapD e
 refine thn (he pins s σ H (fun v H1=>∃ m1,Sub m m1∧Tr H H1∧Rel X.K m1 st0 H1∧MS.IsD X.K m1 H1 d0 v) I ⟨m,st,τ,d0,st0,R0,S0,e1,fun v m1 H1 b1 t1 R1 i1=>⟨m1,b1,t1,R1,i1⟩⟩) fun v s1 ⟨x,H1,I1,r1,m1,b1,t1,R1,i1⟩=>?_
 have plain:(d0,st0)=(d,st')→EP X pins σ Q v s1:=fun z=>by
  cases z
  exact⟨x,H1,I1,r1,q x m1 H1 b1 t1 R1 i1⟩
 unfold M.gcD at e2
 split at e2
 ·rename_i hp
  split at e2
  ·rename_i hn
   cases e2
   refine⟨x,H1,I1,r1,q x m H1 (Sub.refl m) t1 (R0.cutBack R1 b1 hp (Tr.refl H1) fun _ _ _ _ _ _=>rfl) (isD_nl _ _ hn i1)⟩
  ·split at e2
   ·rename_i l hd
    simp only at hd
    split at e2
    ·rename_i hl
     split at e2
     ·rename_i ds hc
      split at e2
      ·rename_i hn
       cases e2
       subst hd
       obtain⟨a,ha,rfl⟩:=i1.loc
       obtain⟨xs,hx,ix⟩:=R1.cell l _ a hc ha
       obtain⟨o,I2⟩:=inv_freeze I1 hx
       have t2:Tr H1 (upd H1 a (.frz o (.lst xs))):=⟨fun b zs e=>by rw[upd_ne (ne_of e hx (by intro z; cases z))]; exact e,fun b o u e=>by rw[upd_ne (ne_of e hx (by intro z; cases z))]; exact e⟩
       refine⟨.ref a,_,I2,r1,q _ m _ (Sub.refl m) (t1.trans t2) (R0.cutBack R1 b1 hp t2 fun l' c a' e ea w=>?_) ?_⟩
       ·refine upd_ne fun z=>?_
        subst z
        have hlt:=(List.getElem?_eq_some_iff.mp e).1
        have:=R1.nd l' l a' c _ (b1 l' a' ea) ha (pre_at hp e) hc w rfl
        omega
       ·exact mkLst (.inl ⟨o,upd_same⟩) (isDs_nl _ _ hn (isDs_mono (Sub.refl m1) t2 _ _ ix))
      ·exact plain e2
     ·exact plain e2
    ·exact plain e2
   ·exact plain e2
 ·exact plain e2
end
end MS
end
section
namespace MS
open PySem PySem.Spec PyProof.Rows L2
open M (D Cell Store Sl)
section
variable {X:Cx}
end
end MS
end
section
namespace MS
open PySem PySem.Spec PyProof.Rows L2
open M (D Cell Store Sl E S T Src Fn Out R)
noncomputable def iSeq(K:PySem.W.Frag)(tl:TE):TI:=fun σ H R=>tl σ H fun x H1=>(∃ a,x=.ref a∧(((∃ xs,SqL K H1 a xs)∧R (Itl K a) H1)∨((∃ xs,SqT K H1 a xs)∧R (Itt K a) H1)))∨∃ z,x=.str z∧z.cps.all (· < 128)=true∧R (Its z) H1
theorem pi_seq{X:Cx}{tg l:Expr}{tl:TE}(hl:PE X l tl):PI X tg l (iSeq X.K tl):=by
 intro pins s σ H R I h
 refine thn (hl pins s σ H _ I h) fun v s1 ⟨x,H1,I1,r1,q1⟩=>?_
 rcases q1 with⟨a,e,q⟩|⟨z,e,ha,q⟩
 ·subst e
  cases r1
  rcases q with⟨⟨xs,hq⟩,q⟩|⟨⟨xs,hq⟩,q⟩
  ·obtain⟨its,rv,p,hz⟩:=I1.list hq
   refine wpAny_pyIter_list p.isList ?_
   refine⟨s1.heap.objs.size,[s1.heap.objs.size],_,_,H1,rfl,I1.kept (t':=s1.toks) fun b o e=>Heap.get?_push_of_some _ e,turn_list a _,⟨_,Heap.get?_push_size _ rfl,rfl,rfl⟩,fun b hb=>?_,q⟩
   have e:b=s1.heap.objs.size:=by simpa using hb
   subst e
   exact I1.fpOk (Nat.le_refl _) (I1.hok.fresh (Nat.le_refl _))
  ·obtain⟨its,rv,p,hz⟩:=I1.tuple hq
   refine wpAny_pyIter_tuple (show s1.heap.IsTuple a its.toArray from p) ?_
   refine⟨s1.heap.objs.size,[s1.heap.objs.size],_,_,H1,rfl,I1.kept (t':=s1.toks) fun b o e=>Heap.get?_push_of_some _ e,turn_tuple a _,⟨_,Heap.get?_push_size _ rfl,rfl,rfl⟩,fun b hb=>?_,q⟩
   have e:b=s1.heap.objs.size:=by simpa using hb
   subst e
   exact I1.fpOk (Nat.le_refl _) (I1.hok.fresh (Nat.le_refl _))
 ·subst e
  obtain⟨t,rfl⟩:=r1
  refine wpAny_pyIter_ascii ha ?_
  refine⟨s1.heap.objs.size,[s1.heap.objs.size],_,_,H1,rfl,I1.kept (t':=s1.toks) fun b o e=>Heap.get?_push_of_some _ e,turn_text z t _,⟨_,Heap.get?_push_size _ rfl,rfl,rfl⟩,fun b hb=>?_,q⟩
  have e:b=s1.heap.objs.size:=by simpa using hb
  subst e
  exact I1.fpOk (Nat.le_refl _) (I1.hok.fresh (Nat.le_refl _))
structure Glo where
 cs:List (Str×D)
 ds:List (Str×List Str×List D)
structure Ctx where
 N:List Str
 sc:Scope
 fns:List Str
 glo:Glo
noncomputable def bName:M.B→String
 |.len=>"len"
 |.min=>"min"
 |.max=>"max"
 |.tuple=>"tuple"
 |.list=>"list"
 |.all=>"all"
 |.sorted=>"sorted"
 |.int=>"int"
 |.str=>"str"
noncomputable def relab(scope sc:Scope):Scope:={ scope with names:=scope.names.map fun(n,k)=>if (k==NameKind.free&&sc.kind==.function&&sc.names.lookup n==some .cell) then(n,NameKind.cell) else(n,k) }
noncomputable def tlOk(N:List Str)(sc:Scope)(t:T):Bool:=t.slots.all fun i=>match N[i]? with
 |some x=>sc.names.lookup x==some .local
 |none=>false
theorem tlOk_of{N:List Str}{sc:Scope}{t:T}(h:tlOk N sc t=true):∀ i∈t.slots,∀ x,N[i]?=some x→sc.names.lookup x=some .local:=by
 intro i hi x hx
 unfold tlOk at h
 have:=List.all_eq_true.mp h i hi
 rw[hx]at this
 simpa using this
def Star(p:Expr):Prop:=∀ es env,starEach (p::es) env=(false,eval p env)::starEach es env
inductive CkTys (c:Ctx):List M.Ty→List Expr→Prop
 |nil:CkTys c [] []
 |cons {t ts ps pos} (ht:t≠.non) (hg:c.sc.names.lookup (Str.ofString t.name)=some .globalImplicit) (h:CkTys c ts ps):CkTys c (t::ts) (.Name (Str.ofString t.name) pos::ps)
inductive CkTs (c:Ctx):List Nat→List Expr→Prop
 |nil:CkTs c [] []
 |cons {i x pos is es} (hN:c.N[i]?=some x) (hl:c.sc.names.lookup x=some .local∨c.sc.names.lookup x=some .cell) (h:CkTs c is es):CkTs c (i::is) (.Name x pos::es)
inductive CkT (c:Ctx):T→Expr→Prop
 |tup {is es k pos} (h:CkTs c is es):CkT c (.tup is) (.Tuple es k pos)
 |var {i x pos} (hN:c.N[i]?=some x) (hl:c.sc.names.lookup x=some .local∨c.sc.names.lookup x=some .cell):CkT c (.var i) (.Name x pos)
noncomputable def gcOk:Expr→Bool
 |.Call _ _ _ _=>true
 |.ListComp _ _ _ _=>true
 |.List _ _=>true
 |.BinOp _ _ _ _=>true
 |.Subscript _ _ _=>true
 |_=>false
inductive CkL (R:E→Expr→Prop):List E→List Expr→Prop
 |nil:CkL R [] []
 |cons {e es p ps} (h:R e p) (t:CkL R es ps):CkL R (e::es) (p::ps)
inductive CkP (R:E→Expr→Prop):List E→List (Option Expr)→List Expr→Prop
 |nil:CkP R [] [] []
 |cons {k v es pk pv ks vs} (hk:R k pk) (hv:R v pv) (t:CkP R es ks vs):CkP R (k::v::es) (some pk::ks) (pv::vs)
inductive CkO (R:E→Expr→Prop):Option E→Option Expr→Prop
 |none:CkO R none none
 |some {e p} (h:R e p):CkO R (some e) (some p)
inductive CkI (R:E→Expr→Prop):Ctx→Expr→E→Expr→Prop
 |rng1 {c tg a pa p0 pos} (hg:c.sc.names.lookup ("range" : Str)=some .globalImplicit) (ha:R a pa):CkI R c tg (.rng1 a) (.Call (.Name "range" p0) [pa] [] pos)
 |rng2 {c tg a b pa pb p0 pos} (hg:c.sc.names.lookup ("range" : Str)=some .globalImplicit) (ha:R a pa) (hb:R b pb):CkI R c tg (.rng2 a b) (.Call (.Name "range" p0) [pa,pb] [] pos)
 |zip {c es k tp a b pa pb p0 pos} (hg:c.sc.names.lookup ("zip" : Str)=some .globalImplicit) (ha:R a pa) (hb:R b pb):CkI R c (.Tuple es k tp) (.zip a b) (.Call (.Name "zip" p0) [pa,pb] [] pos)
 |seq {c tg e p} (h:R e p):CkI R c tg e p
inductive CkF (R:Ctx→E→Expr→Prop):Ctx→E→Expr→Prop
 |var {c i x pos} (hN:c.N[i]?=some x) (hv:Vis c.sc x) (hd:(x==("__debug__" : Str))=false) (hcd:(x==("__classdict__" : Str))=false):CkF R c (.var i) (.Name x pos)
 |int {c i j pos}:CkF R c (.lit (.int i)) (.Constant (.int i) j pos)
 |bl {c i j pos}:CkF R c (.lit (.bl i)) (.Constant (.bool i) j pos)
 |non {c j pos}:CkF R c (.lit .non) (.Constant .none j pos)
 |glo {c x d pos} (hg:c.sc.names.lookup x=some .globalImplicit) (hm:(x,d)∈c.glo.cs) (hd:(x==("__debug__" : Str))=false):CkF R c (.glo x d) (.Name x pos)
 |bin {c op a b pa pb pos} (ha:R c a pa) (hb:R c b pb):CkF R c (.bin op a b) (.BinOp pa op pb pos)
 |not {c a pa pos} (ha:R c a pa):CkF R c (.not a) (.UnaryOp .Not pa pos)
 |cmp {c op a b pa pb pos} (ha:R c a pa) (hb:R c b pb) (hm:behindInMarks op pb=false):CkF R c (.cmp op a b) (.Compare pa [op] [pb] pos)
 |cmp2 {c op op' a b d pa pb pd pos} (ha:R c a pa) (hb:R c b pb) (hd:R c d pd) (hm:lastMarks [op,op'] [pb,pd]=false):CkF R c (.cmp2 op op' a b d) (.Compare pa [op,op'] [pb,pd] pos)
 |and2 {c a b pa pb pos} (ha:R c a pa) (hb:R c b pb):CkF R c (.and a b) (.BoolOp .And [pa,pb] pos)
 |andN {c a b pa pb pd r pos} (ha:R c a pa) (hb:R c b (.BoolOp .And (pb::pd::r) pos)):CkF R c (.and a b) (.BoolOp .And (pa::pb::pd::r) pos)
 |or2 {c a b pa pb pos} (ha:R c a pa) (hb:R c b pb):CkF R c (.or a b) (.BoolOp .Or [pa,pb] pos)
 |ite {c q a b pq pa pb pos} (hq:R c q pq) (ha:R c a pa) (hb:R c b pb):CkF R c (.ite q a b) (.IfExp pq pa pb pos)
 |tup {c es ps k pos} (h:CkL (R c) es ps):CkF R c (.tup es) (.Tuple ps k pos)
 |lst {c es ps pos} (h:CkL (R c) es ps):CkF R c (.lst es) (.List ps pos)
 |idx {c a b pa pb pos} (ha:R c a pa) (hb:R c b pb) (hs:PlainIx pb):CkF R c (.idx a b) (.Subscript pa pb pos)
 |call {c f x es p ps p0 pos} (hg:c.sc.names.lookup x=some .globalImplicit) (hf:c.fns[f]?=some x) (hd:(x==("__debug__" : Str))=false) (h:CkL (R c) es (p::ps)):CkF R c (.call f es) (.Call (.Name x p0) (p::ps) [] pos)
 |bcall {c b es p ps p0 pos} (hg:c.sc.names.lookup (Str.ofString (bName b))=some .globalImplicit) (h:CkL (R c) es (p::ps)):CkF R c (.bcall b es) (.Call (.Name (Str.ofString (bName b)) p0) (p::ps) [] pos)
 |isi1 {c t a pa p0 p1 pos} (hg:c.sc.names.lookup ("isinstance" : Str)=some .globalImplicit) (ht:t≠.non) (hgt:c.sc.names.lookup (Str.ofString t.name)=some .globalImplicit) (ha:R c a pa):CkF R c (.isi a [t] false) (.Call (.Name "isinstance" p0) [pa,.Name (Str.ofString t.name) p1] [] pos)
 |isiN {c ts a pa p0 ps k p1 pos} (hl:ts.length≤1000) (hg:c.sc.names.lookup ("isinstance" : Str)=some .globalImplicit) (ht:CkTys c ts ps) (ha:R c a pa):CkF R c (.isi a ts true) (.Call (.Name "isinstance" p0) [pa,.Tuple ps k p1] [] pos)
 |append {c a e x xp pe apos cpos} (ha:R c a (.Name x xp)) (he:R c e pe) (hl:(apos.endLine==cpos.line)=true):CkF R c (.meth a .append [e]) (.Call (.Attribute (.Name x xp) "append" apos) [pe] [] cpos)
 |gc {c a p} (hp:gcOk p=true) (hg:∀ b,a≠.gc b) (ha:R c a p):CkF R c (.gc a) p
 |comp {c t it elt sr tg iter pelt scope pos N} (hk:scope.kind=.function) (hcell:∀ y∈scope.names,y.2≠.cell) (hfree:∀ y∈scope.names,y.2=.free→c.sc.names.lookup y.1=some .cell∨c.sc.names.lookup y.1=some .free) (hloc:∀ y∈scope.names,y.2=.local→scope.names.lookup y.1=some .local) (hlen:sr.length=N.length) (hsrc:∀ (j i:Nat),sr[j]?=some (some i)→∃ x,N[j]?=some x∧c.N[i]?=some x∧scope.names.lookup x=some .free) (hnd:N.Nodup) (hs:∀ env x,foldedSetIterable iter env x=pure x) (hi:CkI (R c) c tg it iter) (ht:CkT ⟨N,relab scope c.sc,c.fns,c.glo⟩ t tg) (htl:tlOk N (relab scope c.sc) t=true) (he:R ⟨N,relab scope c.sc,c.fns,c.glo⟩ elt pelt):CkF R c (.comp t it none elt sr) (.ListComp pelt [⟨tg,iter,[],0⟩] scope pos)
section
variable {R R':E→Expr→Prop}(k:∀ {e p},R e p→R' e p)
include k
theorem CkL.mono:∀ {es:List E}{ps:List Expr},CkL R es ps→CkL R' es ps
 |_,_,.nil=>.nil
 |_,_,.cons h t=>.cons (k h) (mono t)
theorem CkP.mono:∀ {es:List E}{ks:List (Option Expr)}{ps:List Expr},CkP R es ks ps→CkP R' es ks ps
 |_,_,_,.nil=>.nil
 |_,_,_,.cons h h' t=>.cons (k h) (k h') (mono t)
theorem CkO.mono{o:Option E}{p:Option Expr}(h:CkO R o p):CkO R' o p:=by
 cases h with
 |none=>exact .none
 |some h=>exact .some (k h)
theorem CkI.mono{c:Ctx}{tg:Expr}{e:E}{p:Expr}(h:CkI R c tg e p):CkI R' c tg e p:=by
 cases h with
 |rng1 hg ha=>exact .rng1 hg (k ha)
 |rng2 hg ha hb=>exact .rng2 hg (k ha) (k hb)
 |zip hg ha hb=>exact .zip hg (k ha) (k hb)
 |seq h=>exact .seq (k h)
end
theorem CkF.mono{R R':Ctx→E→Expr→Prop}(k:∀ {c e p},R c e p→R' c e p){c:Ctx}{e:E}{p:Expr}(h:CkF R c e p):CkF R' c e p:=by
 cases h with
 |var hN hv hd hcd=>exact .var hN hv hd hcd
 |int=>exact .int
 |bl=>exact .bl
 |non=>exact .non
 |glo hg hm hd=>exact .glo hg hm hd
 |bin ha hb=>exact .bin (k ha) (k hb)
 |not ha=>exact .not (k ha)
 |cmp ha hb hm=>exact .cmp (k ha) (k hb) hm
 |cmp2 ha hb hd hm=>exact .cmp2 (k ha) (k hb) (k hd) hm
 |and2 ha hb=>exact .and2 (k ha) (k hb)
 |andN ha hb=>exact .andN (k ha) (k hb)
 |or2 ha hb=>exact .or2 (k ha) (k hb)
 |ite hq ha hb=>exact .ite (k hq) (k ha) (k hb)
 |tup h=>exact .tup (CkL.mono k h)
 |lst h=>exact .lst (CkL.mono k h)
 |idx ha hb hs=>exact .idx (k ha) (k hb) hs
 |call hg hf hd h=>exact .call hg hf hd (CkL.mono k h)
 |bcall hg h=>exact .bcall hg (CkL.mono k h)
 |isi1 hg ht hgt ha=>exact .isi1 hg ht hgt (k ha)
 |isiN hl hg ht ha=>exact .isiN hl hg ht (k ha)
 |append ha he hl=>exact .append (k ha) (k he) hl
 |gc hp hg ha=>exact .gc hp hg (k ha)
 |comp hk hcell hfree hloc hlen hsrc hnd hs hi ht htl he=>exact .comp hk hcell hfree hloc hlen hsrc hnd hs (CkI.mono k hi) ht htl (k he)
def CkE(c:Ctx)(e:E)(p:Expr):Prop:=∀ R:Ctx→E→Expr→Prop,(∀ c e p,CkF R c e p→R c e p)→R c e p
theorem CkE.mk{c:Ctx}{e:E}{p:Expr}(h:CkF CkE c e p):CkE c e p:=fun R k=>k c e p (h.mono fun q=>q R k)
theorem CkE.out{c:Ctx}{e:E}{p:Expr}(h:CkE c e p):CkF CkE c e p:=h (CkF CkE) fun _ _ _ q=>q.mono CkE.mk
noncomputable abbrev CkEs(c:Ctx):=CkL (CkE c)
theorem CkE.v{c i x pos}(hN:c.N[i]?=some x:=by rfl)(hv:Vis c.sc x:=by exact .inl rfl)(hd:(x==("__debug__" : Str))=false:=by rfl)(hcd:(x==("__classdict__" : Str))=false:=by rfl):CkE c (.var i) (.Name x pos):=.mk (.var hN hv hd hcd)
theorem CkE.var{c i x pos}(hN:c.N[i]?=some x)(hv:Vis c.sc x)(hd:(x==("__debug__" : Str))=false)(hcd:(x==("__classdict__" : Str))=false):CkE c (.var i) (.Name x pos):=.mk (.var hN hv hd hcd)
theorem CkE.int{c i j pos}:CkE c (.lit (.int i)) (.Constant (.int i) j pos):=.mk (.int)
theorem CkE.bl{c i j pos}:CkE c (.lit (.bl i)) (.Constant (.bool i) j pos):=.mk (.bl)
theorem CkE.non{c j pos}:CkE c (.lit .non) (.Constant .none j pos):=.mk (.non)
theorem CkE.glo{c x d pos}(hg:c.sc.names.lookup x=some .globalImplicit)(hm:(x,d)∈c.glo.cs)(hd:(x==("__debug__" : Str))=false):CkE c (.glo x d) (.Name x pos):=.mk (.glo hg hm hd)
theorem CkE.bin{c op a b pa pb pos}(ha:CkE c a pa)(hb:CkE c b pb):CkE c (.bin op a b) (.BinOp pa op pb pos):=.mk (.bin ha hb)
theorem CkE.not{c a pa pos}(ha:CkE c a pa):CkE c (.not a) (.UnaryOp .Not pa pos):=.mk (.not ha)
theorem CkE.cmp{c op a b pa pb pos}(ha:CkE c a pa)(hb:CkE c b pb)(hm:behindInMarks op pb=false:=by rfl):CkE c (.cmp op a b) (.Compare pa [op] [pb] pos):=.mk (.cmp ha hb hm)
theorem CkE.cmp2{c op op' a b d pa pb pd pos}(ha:CkE c a pa)(hb:CkE c b pb)(hd:CkE c d pd)(hm:lastMarks [op,op'] [pb,pd]=false):CkE c (.cmp2 op op' a b d) (.Compare pa [op,op'] [pb,pd] pos):=.mk (.cmp2 ha hb hd hm)
theorem CkE.and2{c a b pa pb pos}(ha:CkE c a pa)(hb:CkE c b pb):CkE c (.and a b) (.BoolOp .And [pa,pb] pos):=.mk (.and2 ha hb)
theorem CkE.andN{c a b pa pb pd r pos}(ha:CkE c a pa)(hb:CkE c b (.BoolOp .And (pb::pd::r) pos)):CkE c (.and a b) (.BoolOp .And (pa::pb::pd::r) pos):=.mk (.andN ha hb)
theorem CkE.or2{c a b pa pb pos}(ha:CkE c a pa)(hb:CkE c b pb):CkE c (.or a b) (.BoolOp .Or [pa,pb] pos):=.mk (.or2 ha hb)
theorem CkE.ite{c q a b pq pa pb pos}(hq:CkE c q pq)(ha:CkE c a pa)(hb:CkE c b pb):CkE c (.ite q a b) (.IfExp pq pa pb pos):=.mk (.ite hq ha hb)
theorem CkE.tup{c es ps k pos}(h:CkL (CkE c) es ps):CkE c (.tup es) (.Tuple ps k pos):=.mk (.tup h)
theorem CkE.lst{c es ps pos}(h:CkL (CkE c) es ps):CkE c (.lst es) (.List ps pos):=.mk (.lst h)
theorem CkE.idx{c a b pa pb pos}(ha:CkE c a pa)(hb:CkE c b pb)(hs:PlainIx pb:=by exact fun _ _=>rfl):CkE c (.idx a b) (.Subscript pa pb pos):=.mk (.idx ha hb hs)
theorem CkE.call{c f x es p ps p0 pos}(h:CkL (CkE c) es (p::ps))(hg:c.sc.names.lookup x=some .globalImplicit:=by rfl)(hf:c.fns[f]?=some x:=by rfl)(hd:(x==("__debug__" : Str))=false:=by rfl):CkE c (.call f es) (.Call (.Name x p0) (p::ps) [] pos):=.mk (.call hg hf hd h)
theorem CkE.bcall{c b es p ps p0 pos}(h:CkL (CkE c) es (p::ps))(hg:c.sc.names.lookup (Str.ofString (bName b))=some .globalImplicit:=by rfl):CkE c (.bcall b es) (.Call (.Name (Str.ofString (bName b)) p0) (p::ps) [] pos):=.mk (.bcall hg h)
theorem CkE.isi1{c t a pa p0 p1 pos}(ha:CkE c a pa)(hg:c.sc.names.lookup ("isinstance" : Str)=some .globalImplicit:=by rfl)(ht:t≠.non:=by decide)(hgt:c.sc.names.lookup (Str.ofString t.name)=some .globalImplicit:=by rfl):CkE c (.isi a [t] false) (.Call (.Name "isinstance" p0) [pa,.Name (Str.ofString t.name) p1] [] pos):=.mk (.isi1 hg ht hgt ha)
theorem CkE.isiN{c ts a pa p0 ps k p1 pos}(hl:ts.length≤1000)(hg:c.sc.names.lookup ("isinstance" : Str)=some .globalImplicit)(ht:CkTys c ts ps)(ha:CkE c a pa):CkE c (.isi a ts true) (.Call (.Name "isinstance" p0) [pa,.Tuple ps k p1] [] pos):=.mk (.isiN hl hg ht ha)
theorem CkE.append{c a e x xp pe apos cpos}(ha:CkE c a (.Name x xp))(he:CkE c e pe)(hl:(apos.endLine==cpos.line)=true):CkE c (.meth a .append [e]) (.Call (.Attribute (.Name x xp) "append" apos) [pe] [] cpos):=.mk (.append ha he hl)
theorem CkE.gc{c a p}(ha:CkE c a p)(hp:gcOk p=true:=by rfl)(hg:∀ b,a≠.gc b:=by exact fun _ z=>nomatch z):CkE c (.gc a) p:=.mk (.gc hp hg ha)
theorem CkE.comp{c t it elt sr tg iter pelt scope pos N}(hi:CkI (CkE c) c tg it iter)(ht:CkT ⟨N,relab scope c.sc,c.fns,c.glo⟩ t tg)(he:CkE ⟨N,relab scope c.sc,c.fns,c.glo⟩ elt pelt)(hk:scope.kind=.function:=by rfl)(hcell:∀ y∈scope.names,y.2≠.cell:=by decide +kernel)(hfree:∀ y∈scope.names,y.2=.free→c.sc.names.lookup y.1=some .cell∨c.sc.names.lookup y.1=some .free:=by decide +kernel)(hloc:∀ y∈scope.names,y.2=.local→scope.names.lookup y.1=some .local:=by decide +kernel)(hlen:sr.length=N.length:=by rfl)(hsrc:∀ (j i:Nat),sr[j]?=some (some i)→∃ x,N[j]?=some x∧c.N[i]?=some x∧scope.names.lookup x=some .free:=by exact src_of (by decide +kernel))(hnd:N.Nodup:=by decide +kernel)(hs:∀ env x,foldedSetIterable iter env x=pure x:=by exact fun _ _=>rfl)(htl:tlOk N (relab scope c.sc) t=true:=by decide +kernel):CkE c (.comp t it none elt sr) (.ListComp pelt [⟨tg,iter,[],0⟩] scope pos):=.mk (.comp hk hcell hfree hloc hlen hsrc hnd hs hi ht htl he)
mutual
inductive CkS:Ctx→S→Stmt→Prop
 |set {c i e x p pos pos'} (hN:c.N[i]?=some x) (hl:c.sc.names.lookup x=some .local∨c.sc.names.lookup x=some .cell) (h:CkE c e p) (hs:∀ env,swapsWith p (some (.Name x pos')) pos.line env=pure false):CkS c (.set (.var i) e) (.Assign [.Name x pos'] p pos)
 |setIx {c a i e pa pi pe tpos pos} (ha:CkE c a pa) (hi:CkE c i pi) (he:CkE c e pe)
   (hs:∀ env,swapsWithSole [.Subscript pa pi tpos] pe pos.line env=pure false) (hw:∀ env,swappedStores [.Subscript pa pi tpos] pe env=pure none) (h1:∀ env,(assignEach [.Subscript pa pi tpos] env).map (·.2)=[assign (.Subscript pa pi tpos) env])
   (hA:∀ env v,assign (.Subscript pa pi tpos) env v=(do
    let ov ← holding [v] (eval pa env)
    let iv ← holding [v,ov] (eval pi env)
    standAt tpos
    holding [v,ov,iv] (setItem ov iv v)
    release [v,ov,iv] [])):CkS c (.setIx a i e) (.Assign [.Subscript pa pi tpos] pe pos)
 |expr {c e p pos} (h:CkE c e p) (hs:∀ env,swapsWith p none pos.line env=pure false):CkS c (.expr e) (.Expr p pos)
 |ret {c e p pos} (h:CkE c e p):CkS c (.ret e) (.Return (some p) pos)
 |ite {c q a b pq pa pb pos} (hq:CkE c q pq) (ha:CkSs c a pa) (hb:CkSs c b pb):CkS c (.ite q a b) (.If pq pa pb pos)
 |forr {c t it body tg iter pb pos} (ht:CkT c t tg) (hi:CkI (CkE c) c tg it iter) (hs:∀ env x,foldedSetIterable iter env x=pure x) (hb:CkSs c body pb):CkS c (.forr t it body) (.For tg iter pb [] pos)
inductive CkSs:Ctx→List S→List Stmt→Prop
 |nil {c}:CkSs c [] []
 |cons {c s ss p ps} (h:CkS c s p) (t:CkSs c ss ps):CkSs c (s::ss) (p::ps)
 |doc {c ss x j pos pos' ps} (t:CkSs c ss ps):CkSs c ss (.Expr (.Constant (.str x) j pos) pos'::ps)
end
theorem CkS.st{c i e x p pos pos'}(h:CkE c e p)(hN:c.N[i]?=some x:=by rfl)(hl:c.sc.names.lookup x=some .local∨c.sc.names.lookup x=some .cell:=by exact .inl rfl)(hs:∀ env,swapsWith p (some (.Name x pos')) pos.line env=pure false:=by exact fun _=>rfl):CkS c (.set (.var i) e) (.Assign [.Name x pos'] p pos):=.set hN hl h hs
theorem CkE.star{c:Ctx}{e:E}{p:Expr}(h:CkE c e p):Star p:=by
 cases h.out with
 |gc hp hg ha=>
  cases p with
  |Call=>exact fun _ _=>rfl
  |ListComp=>exact fun _ _=>rfl
  |List=>exact fun _ _=>rfl
  |BinOp=>exact fun _ _=>rfl
  |Subscript=>exact fun _ _=>rfl
  |_=>cases hp
 |_=>exact fun _ _=>rfl
noncomputable def spN(K:PySem.W.Frag)(fns:List Fn)(n f:Nat):Sp:=fun vs H Q _=>∃ m st ds d st',Rel K m st H∧IsDs K m H ds vs∧M.callD fns n f ds st=some (d,st')∧Post K m H d st' Q
def FTab(P:Program)(w:World)(K:PySem.W.Frag)(mg:Str→Option Value)(base:Heap)(fns:List Fn)(names:List Str)(n:Nat):Prop:=∀ (f:Nat) (x:Str),names[f]?=some x→∃ (fa:Addr) (fd:FuncData) (ps:List Str),
 mg x=some (.ref fa)∧FnOk P w K mg base CX0 n fa fd ps (spN K fns n f)∧PySem.W.keepIn K (.ref fa)=true∧Binds K fd ps []
structure Mo (K:PySem.W.Frag) (mg:Str→Option Value) (glo:Glo) (prm:Params):Prop where
 gds:∀ x ks ds,(x,ks,ds)∈glo.ds→∃ a,mg x=some (.ref a)∧FDict prm K a ks ds
 glo:∀ x d,(x,d)∈glo.cs→∃ u v,mg x=some u∧RelV v u∧∀ m H,IsD K m H d v
 len:mg "len" = none
 min:mg "min" = none
 max:mg "max" = none
 tuple:mg "tuple" = none
 list:mg "list" = none
 all:mg "all" = none
 sorted:mg "sorted" = none
 isinstance:mg "isinstance" = none
 range:mg "range" = none
 int:mg "int" = none
 bool:mg "bool" = none
 str:mg "str" = none
 zip:mg "zip" = none
 any:mg "any" = none
 enumerate:mg "enumerate" = none
 reversed:mg "reversed" = none
 sum:mg "sum" = none
 set:mg "set" = none
 dict:mg "dict" = none
structure Good (fns:List Fn) (dl:Nat) (c:Ctx) (X:Cx):Prop where
 room:Room dl X.A
 calm:X.calm=true
 N:X.N=c.N
 sc:X.env.scope=c.sc
 nd:c.N.Nodup
 kind:c.sc.kind=.function
 tab:FTab X.prog X.w X.K X.mg X.base fns c.fns dl
 mo:Mo X.K X.mg c.glo X.w.params
 xe:X.xe=fun _ _=>False
end MS
end
section
namespace MS
open PySem PySem.Spec PyProof.Rows L2
open M (D Cell Store Sl E S T Src Fn Out R)
theorem noStars{c:Ctx}:∀ {es:List E}{ps:List Expr},CkEs c es ps→∀ (pos:Pos) (env:Env),(backTo pos (starEach ps env)).any (·.1)=false
 |_,_,.nil,_,_=>rfl
 |_,_,.cons h t,pos,env=>by
  rw[h.star]
  show(false||(backTo pos (starEach _ env)).any (·.1))=false
  rw[noStars t pos env]
  rfl
theorem Good.gl{fns:List Fn}{dl:Nat}{c:Ctx}{X:Cx}(G:Good fns dl c X){x:Str}(h:c.sc.names.lookup x=some .globalImplicit):Gl X x:=by
 show X.env.scope.names.lookup x=_
 rw[G.sc]; exact h
theorem relabel_eq{scope sc:Scope}{env:Env}(h:env.scope=sc):relabel scope env=relab scope sc:=by
 unfold relabel relab Env.kindOf
 rw[h]
theorem Good.inner{fns:List Fn}{dl:Nat}{c:Ctx}{X:Cx}(G:Good fns dl c X){N:List Str}{scope:Scope}{C:Addr}{fp:List Addr}{s:Shared}{H:Hp}(hk:scope.kind=.function)(hnd:N.Nodup):Good fns dl ⟨N,relab scope c.sc,c.fns,c.glo⟩ (cxComp X N scope C fp s H):=
 ⟨G.room,G.calm,rfl,relabel_eq G.sc,hnd,hk,G.tab,G.mo,rfl⟩
noncomputable def IsRow(K:PySem.W.Frag)(m:List Addr)(H:Hp)(k:RK)(a:Addr):D→Prop
 |.tup ds=>k=.tup∧∃ xs,SqT K H a xs∧IsDs K m H ds xs
 |.loc l=>k=.lst∧m[l]?=some a
 |.lst ds=>k=.lst∧∃ xs,SqF K H a xs∧IsDs K m H ds xs
 |_=>False
theorem IsRow.mono{K:PySem.W.Frag}{m m':List Addr}{H H':Hp}{k:RK}{a:Addr}{d:D}(h:IsRow K m H k a d)(b:Sub m m')(t:Tr H H'):IsRow K m' H' k a d:=by
 cases d with
 |tup ds=>obtain⟨e,xs,q,r⟩:=h; exact⟨e,xs,t.sqT q,isDs_mono b t ds xs r⟩
 |loc l=>exact⟨h.1,b l a h.2⟩
 |lst ds=>obtain⟨e,xs,q,r⟩:=h; exact⟨e,xs,t.sqF q,isDs_mono b t ds xs r⟩
 |_=>exact h.elim
theorem IsRow.sq{K:PySem.W.Frag}{m:List Addr}{st:Store}{H:Hp}{k:RK}{a:Addr}{d:D}{ds:List D}(h:IsRow K m H k a d)(R0:Rel K m st H)(e:M.rowAt st d=some ds):∃ xs,k.sq K H a xs∧IsDs K m H ds xs:=by
 cases d with
 |tup es=>
  cases e
  obtain⟨rfl,xs,q,r⟩:=h
  exact⟨xs,q,r⟩
 |loc l=>
  obtain⟨rfl,ha⟩:=h
  obtain⟨a',xs,ha',z,q,r⟩:=R0.list e (mkLoc ha)
  cases z
  exact⟨xs,q,r⟩
 |lst es=>
  cases e
  obtain⟨rfl,xs,q,r⟩:=h
  exact⟨xs,q.sq,r⟩
 |_=>exact h.elim
theorem isRow_of{K:PySem.W.Frag}{m:List Addr}{st:Store}{H:Hp}{d:D}{v:V}{ds:List D}(iv:MS.IsD K m H d v)(R0:Rel K m st H)(e:M.rowAt st d=some ds):∃ k a,v=.ref a∧IsRow K m H k a d∧∃ xs,k.sq K H a xs:=by
 cases d with
 |tup es=>
  obtain⟨a,xs,rfl,q,r⟩:=iv.tup
  exact⟨.tup,a,rfl,⟨rfl,xs,q,r⟩,xs,q⟩
 |loc l=>
  obtain⟨a,xs,ha,rfl,q,r⟩:=R0.list e iv
  exact⟨.lst,a,rfl,⟨rfl,ha⟩,xs,q⟩
 |lst es=>
  obtain⟨a,xs,rfl,q,r⟩:=iv.lst
  exact⟨.lst,a,rfl,⟨rfl,xs,q,r⟩,xs,q.sq⟩
 |_=>cases e
theorem IsRow.sq'{K:PySem.W.Frag}{m:List Addr}{st:Store}{H:Hp}{a:Addr}{d:D}{ds:List D}(h:IsRow K m H .lst a d)(R0:Rel K m st H)(e:M.seqAt st d=some ds):∃ xs,SqL K H a xs∧IsDs K m H ds xs:=by
 cases d with
 |loc l=>exact h.sq R0 e
 |lst l=>exact h.sq R0 e
 |_=>cases e
theorem isRow_of'{K:PySem.W.Frag}{m:List Addr}{st:Store}{H:Hp}{d:D}{v:V}{ds:List D}(iv:MS.IsD K m H d v)(R0:Rel K m st H)(e:M.seqAt st d=some ds):∃ a,v=.ref a∧IsRow K m H .lst a d∧∃ xs,SqL K H a xs:=by
 cases d with
 |loc l=>
  obtain⟨a,xs,ha,rfl,q,r⟩:=R0.list e iv
  exact⟨a,rfl,⟨rfl,ha⟩,xs,q⟩
 |lst l=>
  obtain⟨a,xs,rfl,q,r⟩:=iv.lst
  exact⟨a,rfl,⟨rfl,xs,q,r⟩,xs,q.sq⟩
 |_=>cases e
noncomputable def IsSrc(K:PySem.W.Frag)(m:List Addr)(H:Hp):Src→It→Prop
 |.rng lo n,J=>J=Itr lo n
 |.tup ds,J=>∃ a xs,J=Itt K a∧SqT K H a xs∧IsDs K m H ds xs
 |.lst d,J=>∃ a,IsRow K m H .lst a d∧J=Itl K a
 |.str z,J=>J=Its z
 |.rgs lo c n,J=>False
 |.zip x y,J=>∃ (k1 k2:RK) (a b:Addr),J=Itz K k1 k2 a b∧IsRow K m H k1 a x∧IsRow K m H k2 b y
theorem IsSrc.mono{K:PySem.W.Frag}{m m':List Addr}{H H':Hp}{s:Src}{J:It}(h:IsSrc K m H s J)(b:Sub m m')(t:Tr H H'):IsSrc K m' H' s J:=by
 cases s with
 |rng lo n=>exact h
 |tup ds=>obtain⟨a,xs,e,q,r⟩:=h; exact⟨a,xs,e,t.sqT q,isDs_mono b t ds xs r⟩
 |lst l=>obtain⟨a,e,q⟩:=h; exact⟨a,e.mono b t,q⟩
 |str z=>exact h
 |rgs lo c n=>exact h.elim
 |zip x y=>obtain⟨k1,k2,a,a',e,h1,h2⟩:=h; exact⟨k1,k2,a,a',e,h1.mono b t,h2.mono b t⟩
theorem IsSrc.done{K:PySem.W.Frag}{m:List Addr}{st:Store}{H:Hp}{s:Src}{J:It}{i:Nat}(h:IsSrc K m H s J)(R0:Rel K m st H)(e:s.at st i=some none):J.stop i H:=by
 cases s with
 |rng lo n=>
  cases h
  simp only[Src.at]at e
  split at e
  ·cases e
  ·rename_i q
   exact Nat.not_lt.mp q
 |rgs lo c n=>exact h.elim
 |tup ds=>
  obtain⟨a,xs,rfl,q,r⟩:=h
  simp only[Src.at,Option.some.injEq]at e
  exact⟨xs,q,by rw[← r.length]; exact List.getElem?_eq_none_iff.mp e⟩
 |lst l=>
  obtain⟨a,ha,rfl⟩:=h
  simp only[Src.at]at e
  obtain⟨ds,e1,e2⟩:=mapD e
  obtain⟨xs,q,r⟩:=ha.sq' R0 e1
  exact⟨xs,q,by rw[← r.length]; exact List.getElem?_eq_none_iff.mp e2⟩
 |str z=>
  cases h
  simp only[Src.at,Option.some.injEq]at e
  have:=List.getElem?_eq_none_iff.mp e
  rw[List.length_map]at this
  exact this
 |zip x y=>
  obtain⟨k1,k2,a,b,rfl,h1,h2⟩:=h
  simp only[Src.at]at e
  obtain⟨ds,e1,e⟩:=bindO e
  obtain⟨es,e2,e3⟩:=mapD e
  obtain⟨xs,q1,r1⟩:=h1.sq R0 e1
  obtain⟨ys,q2,r2⟩:=h2.sq R0 e2
  refine⟨xs,ys,q1,q2,?_⟩
  unfold M.pairAt at e3
  rw[← r1.length,← r2.length]
  cases z1:ds[i]? with
  |none=>exact .inl (List.getElem?_eq_none_iff.mp z1)
  |some d1=>
   cases z2:es[i]? with
   |none=>exact .inr (List.getElem?_eq_none_iff.mp z2)
   |some d2=>rw[z1,z2]at e3; cases e3
theorem IsSrc.next{K:PySem.W.Frag}{m:List Addr}{st:Store}{H:Hp}{s:Src}{J:It}{i:Nat}{d:D}(h:IsSrc K m H s J)(R0:Rel K m st H)(e:s.at st i=some (some d)):J.go i H∧∀ x H',J.yld i H x H'→Same H H'∧MS.IsD K m H' d x:=by
 cases s with
 |rng lo n=>
  cases h
  simp only[Src.at,Option.some.injEq]at e
  split at e
  ·rename_i q
   cases e
   refine⟨q,?_⟩
   rintro x H' ⟨rfl,rfl⟩
   exact⟨fun _ _ z=>z,mkInt _⟩
  ·cases e
 |rgs lo c n=>exact h.elim
 |tup ds=>
  obtain⟨a,xs,rfl,q,r⟩:=h
  simp only[Src.at,Option.some.injEq]at e
  obtain⟨x,ex,ix⟩:=r.get e
  refine⟨⟨xs,x,q,ex⟩,?_⟩
  rintro y H' ⟨rfl,z⟩
  have:=z xs q
  rw[ex]at this
  cases this
  exact⟨fun _ _ z=>z,ix⟩
 |lst l=>
  obtain⟨a,ha,rfl⟩:=h
  simp only[Src.at]at e
  obtain⟨ds,e1,e2⟩:=mapD e
  obtain⟨xs,q,r⟩:=ha.sq' R0 e1
  obtain⟨x,ex,ix⟩:=r.get e2
  refine⟨⟨xs,x,q,ex⟩,?_⟩
  rintro y H' ⟨rfl,z⟩
  have:=z xs q
  rw[ex]at this
  cases this
  exact⟨fun _ _ z=>z,ix⟩
 |str z=>
  cases h
  simp only[Src.at,Option.some.injEq]at e
  rw[List.getElem?_map]at e
  cases hc:z.cps.toList[i]? with
  |none=>rw[hc]at e; cases e
  |some c=>
   rw[hc]at e
   cases e
   refine⟨(List.getElem?_eq_some_iff.mp hc).1,?_⟩
   rintro x H' ⟨rfl,c',hc',rfl⟩
   rw[hc]at hc'
   cases hc'
   exact⟨fun _ _ w=>w,mkStr _⟩
 |zip u v=>
  obtain⟨k1,k2,a,b,rfl,h1,h2⟩:=h
  simp only[Src.at]at e
  obtain⟨ds,e1,e⟩:=bindO e
  obtain⟨es,e2,e3⟩:=mapD e
  obtain⟨xs,q1,r1⟩:=h1.sq R0 e1
  obtain⟨ys,q2,r2⟩:=h2.sq R0 e2
  unfold M.pairAt at e3
  cases z1:ds[i]? with
  |none=>rw[z1]at e3; cases e3
  |some d1=>
   cases z2:es[i]? with
   |none=>rw[z1,z2]at e3; cases e3
   |some d2=>
    rw[z1,z2]at e3
    cases e3
    obtain⟨x,ex,ix⟩:=r1.get z1
    obtain⟨y,ey,iy⟩:=r2.get z2
    refine⟨⟨xs,ys,x,y,q1,q2,ex,ey⟩,?_⟩
    rintro w H' ⟨p,x',y',rfl,hp,rfl,f1,f2⟩
    have g1:=f1 xs q1
    rw[ex]at g1
    cases g1
    have g2:=f2 ys q2
    rw[ey]at g2
    cases g2
    have sm:=same_new (o:=.tup [x,y]) hp
    exact⟨sm,mkTup (SqT.of upd_same) (isDs_mono (Sub.refl _) (Tr.of_same sm) _ _ (mkCons ix (mkCons iy mkNil)))⟩
noncomputable def tI(K:PySem.W.Frag)(f:Sl→Store→Option (Src×Store)):TI:=fun σ H R=>∃ m st τ s st',Rel K m st H∧SlotOk K m H τ σ∧f τ st=some (s,st')∧∀ m' H' J,Sub m m'→Tr H H'→Rel K m' st' H'→IsSrc K m' H' s J→R J H'
theorem tI.el{K:PySem.W.Frag}{f:Sl→Store→Option (Src×Store)}{σ:L2.St}{H:Hp}{Q:It→Hp→Prop}{P:Prop}(h:tI K f σ H Q)(k:∀ m st τ s st',Rel K m st H→SlotOk K m H τ σ→f τ st=some (s,st')→(∀ m' H' J,Sub m m'→Tr H H'→Rel K m' st' H'→IsSrc K m' H' s J→Q J H')→P):P:=by
 rcases h with⟨m,st,τ,d,st',a,b,c,e⟩
 exact k m st τ d st' a b c e
theorem _root_.L2.PI.imp{X:Cx}{tg e:Expr}{t t':TI}(h:PI X tg e t)(f:∀ σ H R,t' σ H R→t σ H R):PI X tg e t':=fun pins s σ H Q I q=>h pins s σ H Q I (f σ H Q q)
def PostO(K:PySem.W.Frag)(m:List Addr)(H:Hp)(o:Out)(st':Store)(Dn:Ends):Prop:=∀ m' H',Sub m m'→Tr H H'→Rel K m' st' H'→match o with
 |.nx τ=>∀ σ',SlotOk K m' H' τ σ'→Dn.nx σ' H'
 |.rt d=>∀ v,IsD K m' H' d v→Dn.rt v H'
 |.bk τ=>∀ σ',SlotOk K m' H' τ σ'→Dn.bk σ' H'
 |.ct τ=>∀ σ',SlotOk K m' H' τ σ'→Dn.ct σ' H'
theorem PostO.mono{K:PySem.W.Frag}{m m1:List Addr}{H H1:Hp}{o:Out}{st':Store}{Dn:Ends}(p:PostO K m H o st' Dn)(s:Sub m m1)(t:Tr H H1):PostO K m1 H1 o st' Dn:=fun m' H' s' t' r=>p m' H' (s.trans s') (t.trans t') r
noncomputable def tS(K:PySem.W.Frag)(f:Sl→Store→Option (Out×Store)):TS:=fun Dn σ H=>∃ m st τ o st',Rel K m st H∧SlotOk K m H τ σ∧f τ st=some (o,st')∧PostO K m H o st' Dn
theorem tS.el{K:PySem.W.Frag}{f:Sl→Store→Option (Out×Store)}{σ:L2.St}{H:Hp}{Dn:Ends}{P:Prop}(h:tS K f Dn σ H)(k:∀ m st τ o st',Rel K m st H→SlotOk K m H τ σ→f τ st=some (o,st')→PostO K m H o st' Dn→P):P:=by
 rcases h with⟨m,st,τ,d,st',a,b,c,e⟩
 exact k m st τ d st' a b c e
structure AllOk (fns:List Fn) (dl n:Nat):Prop where
 e:∀ c X,Good fns dl c X→∀ e p,CkE c e p→PE X p (tD X.K fun τ st=>(M.rn fns dl n).ev τ st e)
 t:∀ c X,Good fns dl c X→∀ e p,CkE c e p→PT X p (tTs X.K fun τ st=>(M.rn fns dl n).tst τ st e)
 w:∀ c X,Good fns dl c X→∀ e op ps pos,CkE c e (.BoolOp op ps pos)→PW X (.BoolOp op ps pos) (tTs X.K fun τ st=>(M.rn fns dl n).tst τ st e)
 s:∀ c X,Good fns dl c X→(∀ x,X.fn x=true)→∀ ss ps,CkSs c ss ps→PSs X ps (tS X.K fun τ st=>(M.rn fns dl n).ex τ st ss)
theorem allOk_zero(fns:List Fn)(dl:Nat):AllOk fns dl 0 where
 e:=fun c X G e p h pins s σ H Q I q=>by obtain⟨m,st,τ,d,st',_,_,z,_⟩:=q; cases z
 t:=fun c X G e p h pins s σ H Q I q=>by obtain⟨m,st,τ,d,st',_,_,z,_⟩:=q; cases z
 w:=fun c X G e op ps pos h wh pins s σ H Q I q=>by obtain⟨m,st,τ,d,st',_,_,z,_⟩:=q; cases z
 s:=fun c X G hf ss ps h pins s σ H Q I q=>by obtain⟨m,st,τ,d,st',_,_,z,_⟩:=q; cases z
section
variable {fns:List Fn}{dl n:Nat}{c:Ctx}{X:Cx}
theorem args_ok(A:AllOk fns dl n)(G:Good fns dl c X):∀ {es:List E}{ps:List Expr},CkEs c es ps→PA X ps (tL X.K fun τ st=>M.evs ((M.rn fns dl n).ev τ) es st)
 |_,_,.nil=>pa_nil.imp fun _ _ _ h=>tL_nil h
 |_,_,.cons (e:=e) (es:=es) h t=>(pa_cons (A.e c X G _ _ h) (args_ok A G t) (h.star _ _)).imp fun _ _ _ q=>
   tL_cons (fa:=fun τ st=>(M.rn fns dl n).ev τ st e) (fr:=fun τ st=>M.evs ((M.rn fns dl n).ev τ) es st) q
noncomputable def plainE:E→Bool
 |.rng1 _=>false
 |.rng2 _ _=>false
 |.rng3 _ _ _=>false
 |.zip _ _=>false
 |_=>true
theorem CkF.plain{R:Ctx→E→Expr→Prop}{c:Ctx}{e:E}{p:Expr}(h:CkF R c e p):plainE e=true:=by cases h<;>rfl
theorem src_plain{e:E}(h:plainE e=true)(r:R)(τ:Sl)(st:Store):M.src r τ st e=(r.ev τ st e).bind fun p=>match p.1 with
   |.tup ds=>some (.tup ds,p.2)
   |.str z=>if z.cps.all (· < 128) then some (.str z,p.2) else none
   |d=>(M.seqAt p.2 d).map fun _=>(.lst d,p.2):=by
 cases e with
 |rng1 _=>cases h
 |rng2 _ _=>cases h
 |rng3 _ _ _=>cases h
 |zip _ _=>cases h
 |_=>rfl
theorem iter_ok(A:AllOk fns dl n)(G:Good fns dl c X){it:E}{tg iter:Expr}(h:CkI (CkE c) c tg it iter):PI X tg iter (tI X.K fun τ st=>M.src (M.rn fns dl n) τ st it):=by
 have seq:∀ {e p},CkE c e p→(∀ τ st,M.src (M.rn fns dl n) τ st e=((M.rn fns dl n).ev τ st e).bind fun p=>match p.1 with
   |.tup ds=>some (.tup ds,p.2)
   |.str z=>if z.cps.all (· < 128) then some (.str z,p.2) else none
   |d=>(M.seqAt p.2 d).map fun _=>(.lst d,p.2))→PI X tg p (tI X.K fun τ st=>M.src (M.rn fns dl n) τ st e):=by
  intro e p he hsrc
  refine(pi_seq (A.e c X G e p he)).imp fun σ H R q=>?_
  refine q.el fun m st τ s st' R0 S0 e1 q=>?_
  have e1:=(hsrc τ st).symm.trans e1
  obtain⟨d,s1,e2,e1⟩:=bindD e1
  refine⟨m,st,τ,d,s1,R0,S0,e2,fun x m1 H1 b1 t1 R1 i1=>?_⟩
  cases d with
  |tup ds=>
   cases e1
   obtain⟨a,xs,rfl,hq,ix⟩:=i1.tup
   exact .inl ⟨a,rfl,.inr ⟨⟨xs,hq⟩,q m1 H1 _ b1 t1 R1 ⟨a,xs,rfl,hq,ix⟩⟩⟩
  |loc l=>
   obtain⟨ds,e3,e4⟩:=mapD e1
   cases e4
   obtain⟨a,rfl,ha,xs,hq⟩:=isRow_of' i1 R1 e3
   exact .inl ⟨a,rfl,.inl ⟨⟨xs,hq⟩,q m1 H1 _ b1 t1 R1 ⟨a,ha,rfl⟩⟩⟩
  |lst l=>
   obtain⟨ds,e3,e4⟩:=mapD e1
   cases e4
   obtain⟨a,rfl,ha,xs,hq⟩:=isRow_of' i1 R1 e3
   exact .inl ⟨a,rfl,.inl ⟨⟨xs,hq⟩,q m1 H1 _ b1 t1 R1 ⟨a,ha,rfl⟩⟩⟩
  |str z=>
   dsimp only at e1
   split at e1
   ·rename_i hz
    cases e1
    exact .inr ⟨z,i1.str,hz,q m1 H1 _ b1 t1 R1 rfl⟩
   ·cases e1
  |_=>cases e1
 cases h with
 |@rng1 _ a pa p0 pos hg ha=>
  refine(pi_range1 (G.gl hg) G.mo.range (args_ok A G (.cons ha .nil)) (by rw[ha.star]; rfl)).imp fun σ H R q=>?_
  refine q.el fun m st τ s st' R0 S0 e1 q=>?_
  have e1:(((M.rn fns dl n).ev τ st a).bind fun p=>match p.1 with
   |.int n=>if M.big n then none else some (Src.rng 0 n.toNat,p.2)
   |_=>none)=some (s,st'):=e1
  obtain⟨d,s1,e2,e1⟩:=bindD e1
  cases d with
  |int k=>
   dsimp only at e1
   split at e1
   ·cases e1
   ·rename_i hb
    cases e1
    unfold M.big at hb
    simp only[Bool.or_eq_true,decide_eq_true_eq,not_or]at hb
    refine⟨m,st,τ,[.int k],st',R0,S0,?_,fun xs m1 H1 b1 t1 R1 i1=>?_⟩
    ·show(((M.rn fns dl n).ev τ st a).bind fun p=>(some (([]:List D),p.2)).bind fun q=>some (p.1::q.1,q.2))=_
     rw[e2]; rfl
    ·obtain⟨x,rfl,ix⟩:=i1.one
     cases ix.int
     exact⟨k,rfl,by omega,by omega,q m1 H1 _ b1 t1 R1 rfl⟩
  |_=>cases e1
 |@rng2 _ a b pa pb p0 pos hg ha hb=>
  refine(pi_range2 (G.gl hg) G.mo.range (args_ok A G (.cons ha (.cons hb .nil))) (by rw[ha.star,hb.star]; rfl) (by rw[hb.star]; rfl)).imp fun σ H R q=>?_
  refine q.el fun m st τ s st' R0 S0 e1 q=>?_
  have e1:(((M.rn fns dl n).ev τ st a).bind fun p=>((M.rn fns dl n).ev τ p.2 b).bind fun q=>match p.1,q.1 with
   |.int i,.int j=>if M.big i||M.big j then none else some (Src.rng i (j - i).toNat,q.2)
   |_,_=>none)=some (s,st'):=e1
  obtain⟨d,s1,e2,e1⟩:=bindD e1
  obtain⟨d',s2,e3,e1⟩:=bindD e1
  dsimp only at e1
  split at e1
  ·rename_i i j _
   split at e1
   ·cases e1
   ·rename_i hb
    cases e1
    unfold M.big at hb
    simp only[Bool.or_eq_true,decide_eq_true_eq,not_or]at hb
    refine⟨m,st,τ,[.int i,.int j],st',R0,S0,?_,fun xs m1 H1 b1 t1 R1 i1=>?_⟩
    ·show(((M.rn fns dl n).ev τ st a).bind fun p=>(((M.rn fns dl n).ev τ p.2 b).bind fun p=>(some (([]:List D),p.2)).bind fun q=>some (p.1::q.1,q.2)).bind fun q=>some (p.1::q.1,q.2))=_
     rw[e2]
     show(((M.rn fns dl n).ev τ s1 b).bind fun p=>(some (([]:List D),p.2)).bind fun q=>some (p.1::q.1,q.2)).bind _=_
     rw[e3]; rfl
    ·obtain⟨x,y,rfl,ix,iy⟩:=i1.two
     cases ix.int
     cases iy.int
     exact⟨i,j,rfl,⟨by omega,by omega,by omega,by omega⟩,q m1 H1 _ b1 t1 R1 rfl⟩
  ·cases e1
 |@zip ts k tp a b pa pb p0 pos hg ha hb=>
  refine(pi_zip (G.gl hg) G.mo.zip (args_ok A G (.cons ha (.cons hb .nil))) (by rw[ha.star,hb.star]; rfl) (by rw[hb.star]; rfl)).imp fun σ H R q=>?_
  obtain⟨m,st,τ,s,st',R0,S0,e1,q⟩:=q
  have e1:(((M.rn fns dl n).ev τ st a).bind fun p=>((M.rn fns dl n).ev τ p.2 b).bind fun q=>(M.rowAt q.2 p.1).bind fun _=>(M.rowAt q.2 q.1).map fun _=>(Src.zip p.1 q.1,q.2))=some (s,st'):=e1
  obtain⟨d,s1,e2,e1⟩:=bindD e1
  obtain⟨d',s2,e3,e1⟩:=bindD e1
  obtain⟨ds,e4,e1⟩:=bindO e1
  obtain⟨es,e5,e6⟩:=mapD e1
  cases e6
  refine⟨m,st,τ,[d,d'],s2,R0,S0,?_,fun xs m1 H1 b1 t1 R1 i1=>?_⟩
  ·show(((M.rn fns dl n).ev τ st a).bind fun p=>(((M.rn fns dl n).ev τ p.2 b).bind fun p=>(some (([]:List D),p.2)).bind fun q=>some (p.1::q.1,q.2)).bind fun q=>some (p.1::q.1,q.2))=_
   rw[e2]
   show(((M.rn fns dl n).ev τ s1 b).bind fun p=>(some (([]:List D),p.2)).bind fun q=>some (p.1::q.1,q.2)).bind _=_
   rw[e3]; rfl
  ·obtain⟨x,y,rfl,ix,iy⟩:=i1.two
   obtain⟨k1,a1,rfl,h1,w1⟩:=isRow_of ix R1 e4
   obtain⟨k2,a2,rfl,h2,w2⟩:=isRow_of iy R1 e5
   exact⟨k1,k2,a1,a2,rfl,w1,w2,q m1 H1 _ b1 t1 R1 ⟨k1,k2,a1,a2,rfl,h1,h2⟩⟩
 |@seq _ e p he=>
  exact seq he (src_plain he.out.plain _)
noncomputable def gIs:List Nat→TGs
 |[]=>gNil
 |i::is=>gCons (gName i) (gIs is)
noncomputable def gT(K:PySem.W.Frag):T→TG
 |.var i=>gName i
 |.tup is=>gTup K is.length (gIs is)
theorem gIs_of{K:PySem.W.Frag}{m:List Addr}{H:Hp}{Q:L2.St→Hp→Prop}:∀ {is:List Nat}{ds:List D}{xs:List V}{τ τ':Sl}{σ:L2.St},IsDs K m H ds xs→SlotOk K m H τ σ→M.setIs is ds τ=some τ'→(∀ σ',SlotOk K m H τ' σ'→Q σ' H)→gIs is xs σ H Q
 |[],[],xs,τ,τ',σ,ix,S0,e,k=>by
  cases e
  exact⟨ix.nil,k σ S0⟩
 |i::is,d::ds,xs,τ,τ',σ,ix,S0,e,k=>by
  obtain⟨x,r,rfl,q,t⟩:=ix.cons
  unfold M.setIs at e
  split at e
  ·exact⟨x,r,rfl,gIs_of t (S0.put q) e k⟩
  ·cases e
 |[],_::_,_,_,_,_,_,_,e,_=>by cases e
 |_::_,[],_,_,_,_,_,_,e,_=>by cases e
theorem setIs_len:∀ {is:List Nat}{ds:List D}{τ τ':Sl},M.setIs is ds τ=some τ'→is.length=ds.length
 |[],[],_,_,_=>rfl
 |i::is,d::ds,τ,τ',e=>by
  unfold M.setIs at e
  split at e
  ·rw[List.length_cons,List.length_cons,setIs_len e]
  ·cases e
 |[],_::_,_,_,e=>by cases e
 |_::_,[],_,_,e=>by cases e
theorem gT_of{K:PySem.W.Frag}{m:List Addr}{H:Hp}{Q:L2.St→Hp→Prop}{t:T}{d:D}{v:V}{τ τ':Sl}{σ:L2.St}(iv:IsD K m H d v)(S0:SlotOk K m H τ σ)(e:M.setT t d τ=some τ')(k:∀ σ',SlotOk K m H τ' σ'→Q σ' H):gT K t v σ H Q:=by
 cases t with
 |var i=>
  have e:(if i<τ.length then some (τ.set i (some d)) else none)=some τ':=e
  split at e
  ·cases e
   exact k _ (S0.put iv)
  ·cases e
 |tup is=>
  cases d with
  |tup ds=>
   obtain⟨a,xs,rfl,hq,ix⟩:=iv.tup
   have e:M.setIs is ds τ=some τ':=e
   exact⟨a,xs,rfl,hq,by rw[← ix.length,setIs_len e],gIs_of ix S0 e k⟩
  |_=>cases e
theorem var_of(G:Good fns dl c X){i:Nat}{x:Str}(h:c.N[i]?=some x):X.N[i]?=some x:=by rw[G.N]; exact h
theorem boot_all':bootBuiltins ("all" : Str)=some (.builtin "all"):=by decide +kernel
theorem boot_int':bootBuiltins ("int" : Str)=some (.type "int"):=by decide +kernel
theorem boot_bool':bootBuiltins ("bool" : Str)=some (.type "bool"):=by decide +kernel
theorem boot_str':bootBuiltins ("str" : Str)=some (.type "str"):=by decide +kernel
theorem boot_isi':bootBuiltins ("isinstance" : Str)=some (.builtin "isinstance"):=by decide +kernel
theorem boot_sorted':bootBuiltins ("sorted" : Str)=some (.builtin "sorted"):=by decide +kernel
theorem boot_len':bootBuiltins ("len" : Str)=some (.builtin "len"):=by decide +kernel
theorem boot_min':bootBuiltins ("min" : Str)=some (.builtin "min"):=by decide +kernel
theorem boot_max':bootBuiltins ("max" : Str)=some (.builtin "max"):=by decide +kernel
theorem boot_list':bootBuiltins ("list" : Str)=some (.type "list"):=by decide +kernel
theorem boot_tuple':bootBuiltins ("tuple" : Str)=some (.type "tuple"):=by decide +kernel
theorem ty_ok(G:Good fns dl c X){t:M.Ty}{pos:Pos}(ht:t≠.non)(hg:c.sc.names.lookup (Str.ofString t.name)=some .globalImplicit):PE X (.Name (Str.ofString t.name) pos) (tC (.ty t.name)):=by
 cases t with
 |non=>exact absurd rfl ht
 |bl=>exact pe_bltn (G.gl hg) G.mo.bool boot_bool' rfl (by decide) (by decide)
 |int=>exact pe_bltn (G.gl hg) G.mo.int boot_int' rfl (by decide) (by decide)
 |str=>exact pe_bltn (G.gl hg) G.mo.str boot_str' rfl (by decide) (by decide)
 |tup=>exact pe_bltn (G.gl hg) G.mo.tuple boot_tuple' rfl (by decide) (by decide)
 |lst=>exact pe_bltn (G.gl hg) G.mo.list boot_list' rfl (by decide) (by decide)
noncomputable def tCs:List V→TA
 |[]=>tNil
 |v::vs=>tCons (tC v) (tCs vs)
theorem tCs_end:∀ (vs:List V) (σ:L2.St) (H:Hp) (Q:List V→Hp→Prop),Q vs H→tCs vs σ H Q
 |[],_,_,_,h=>h
 |v::vs,σ,H,Q,h=>tCs_end vs σ H (fun xs H2=>Q (v::xs) H2) h
theorem tys_ok(G:Good fns dl c X):∀ {ts:List M.Ty}{ps:List Expr},CkTys c ts ps→PA X ps (tCs (ts.map fun t=>V.ty t.name))∧∀ t∈ts,t≠.non
 |_,_,.nil=>⟨pa_nil,fun _ h=>nomatch h⟩
 |_,_,.cons ht hg h=>by
  obtain⟨h1,h2⟩:=tys_ok G h
  refine⟨pa_cons (ty_ok G ht hg) h1 rfl,fun t hm=>?_⟩
  rcases List.mem_cons.mp hm with z|z
  ·rw[z]; exact ht
  ·exact h2 t z
end
end MS
end
section
namespace MS
open PySem PySem.Spec PyProof.Rows L2
open M (D Cell Store Sl E S T Src Fn Out R)
section
variable {fns:List Fn}{dl n:Nat}{c:Ctx}{X:Cx}
theorem comp_scope(G:Good fns dl c X){N:List Str}{sr:List (Option Nat)}{scope:Scope}(hk:scope.kind=.function)(hcell:∀ y∈scope.names,y.2≠.cell)(hfree:∀ y∈scope.names,y.2=.free→c.sc.names.lookup y.1=some .cell∨c.sc.names.lookup y.1=some .free)
  (hloc:∀ y∈scope.names,y.2=.local→scope.names.lookup y.1=some .local) (hlen:sr.length=N.length) (hsrc:∀ (j i:Nat),sr[j]?=some (some i)→∃ x,N[j]?=some x∧c.N[i]?=some x∧scope.names.lookup x=some .free):CompScope X N sr scope:=
 ⟨hk,hcell,fun y hy hf=>by
  have:=hfree y hy hf
  show X.env.scope.names.lookup y.1=_∨X.env.scope.names.lookup y.1=_
  rw[G.sc]; exact this,hloc,hlen,fun j i h=>by
  obtain⟨x,a,b,d⟩:=hsrc j i h
  exact⟨x,a,var_of G b,d⟩⟩
theorem inner_ok{K:PySem.W.Frag}{m:List Addr}{H:Hp}{τ:Sl}{σ:L2.St}(sr:List (Option Nat))(h:SlotOk K m H τ σ):SlotOk K m H (M.inner sr τ) (innerS sr σ):=by
 refine⟨by unfold M.inner innerS; rw[List.length_map,List.length_map],fun j d e=>?_⟩
 unfold M.inner at e
 rw[List.getElem?_map]at e
 unfold innerS
 rw[List.getElem?_map]
 cases q:sr[j]? with
 |none=>rw[q]at e; cases e
 |some o=>
  rw[q]at e
  cases o with
  |none=>cases e
  |some i=>
   have hi:τ[i]?=some (some d):=by
    cases z:τ[i]? with
    |none=>simp[z]at e
    |some w=>
     cases w with
     |none=>simp[z]at e
     |some w=>simpa[z] using e
   obtain⟨v,a,b⟩:=h.at_ i d hi
   refine⟨v,?_,b⟩
   simp[a]
theorem tD_comp{K:PySem.W.Frag}{r:R}{t:T}{it elt:E}{q:Option E}{sr:List (Option Nat)}{tt:TT}{σ:L2.St}{H:Hp}{Q:VK}
  (htt:∀ σ H (Q:Bool→Hp→Prop),(match q with
   |none=>Q true H
   |some c=>tTs K (fun τ st=>r.tst τ st c) σ H Q)→tt σ H Q)
  (h:tD K (fun τ st=>M.stepEv r τ st (.comp t it q elt sr)) σ H Q) :
  tComp sr (tI K fun τ st=>M.src r τ st it) (gT K t) tt (tD K fun τ st=>r.ev τ st elt) σ H Q:=by
 refine h.el fun m st τ d st' R0 S0 e post=>?_
 have e:((M.src r τ st it).bind fun p=>(M.loopC p.1 (M.turnC r t q elt) (p.1.size p.2+1) 0 [] (M.inner sr τ) p.2).map fun q=>M.alloc q.2 (.lst true q.1))=some (d,st'):=e
 obtain⟨p,e1,e⟩:=bindO e
 obtain⟨res,e2,e3⟩:=mapD e
 refine⟨m,st,τ,p.1,p.2,R0,S0,e1,fun m1 H1 J b1 t1 R1 hJ=>?_⟩
 refine⟨fun i' k acc σ' H'=>∃ m2 st2 τ2 accD,Sub m1 m2∧Tr H1 H'∧Rel K m2 st2 H'∧SlotOk K m2 H' τ2 σ'∧IsDs K m2 H' accD acc∧M.loopC p.1 (M.turnC r t q elt) k i' accD τ2 st2=some res,
  ⟨_,m1,p.2,M.inner sr τ,[],Sub.refl _,Tr.refl _,R1,inner_ok sr (S0.mono b1 t1),mkNil,e2⟩,?_⟩
 rintro j k acc σ' H' ⟨m2,st2,τ2,accD,b2,t2,R2,S2,ia,e4⟩
 cases k with
 |zero=>cases e4
 |succ k=>
  have e4:(p.1.at st2 j).bind (fun o=>match o with
   |none=>if M.lim<accD.length then none else some (accD,st2)
   |some d=>if M.lim≤accD.length then none else(M.turnC r t q elt τ2 st2 d).bind fun z=>M.loopC p.1 (M.turnC r t q elt) k (j+1) (match z.1 with|some x=>accD++[x]|none=>accD) z.2.1 z.2.2)=some res:=e4
  obtain⟨o,e5,e4⟩:=bindO e4
  have l1:=ia.length
  have l2:=lim_eq
  cases o with
  |none=>
   dsimp only at e4
   split at e4
   ·cases e4
   ·rename_i hl
    cases e4
    refine .inl ⟨(hJ.mono b2 t2).done R2 e5,by omega,fun pp hp=>?_⟩
    cases e3
    exact post _ (m2++[pp]) _ (b1.trans (b2.trans (Sub.app _ _))) (t1.trans (t2.trans (Tr.of_same (same_new hp)))) (R2.new hp ia) R2.newLoc
  |some d'=>
   dsimp only at e4
   split at e4
   ·cases e4
   ·rename_i hl
    obtain⟨hgo,hy⟩:=(hJ.mono b2 t2).next R2 e5
    refine .inr ⟨hgo,by omega,fun x H2 hyl=>?_⟩
    obtain⟨sm,ix⟩:=hy x H2 hyl
    have t2:=t2.trans (Tr.of_same sm)
    have R2:=R2.same sm
    have S2:=S2.mono (Sub.refl _) (Tr.of_same sm)
    have ia:=isDs_mono (Sub.refl _) (Tr.of_same sm) _ _ ia
    obtain⟨z,e6,e4⟩:=bindO e4
    unfold M.turnC at e6
    obtain⟨τ3,e7,e6⟩:=bindO e6
    refine gT_of ix S2 e7 fun σ3 S3=>?_
    ·refine htt _ _ _ ?_
     cases q with
     |none=>
      dsimp only at e6 ⊢
      obtain⟨y,e8,e9⟩:=mapD e6
      cases e9
      rw[if_pos rfl]
      refine⟨m2,st2,_,y.1,y.2,R2,S3,e8,fun v m3 H3 b3 t3 R3 i3=>⟨k,Nat.lt_succ_self k,m3,y.2,_,accD++[y.1],b2.trans b3,t2.trans t3,R3,S3.mono b3 t3,(isDs_mono b3 t3 _ _ ia).append (mkCons i3 mkNil),e4⟩⟩
     |some cq=>
      dsimp only at e6 ⊢
      obtain⟨bb,e8,e6⟩:=bindO e6
      refine⟨m2,st2,_,bb.1,bb.2,R2,S3,e8,fun m3 H3 b3 t3 R3=>?_⟩
      cases hb:bb.1 with
      |true=>
       rw[hb,if_pos rfl]at e6
       rw[if_pos rfl]
       obtain⟨y,e9,e10⟩:=mapD e6
       cases e10
       refine⟨m3,bb.2,_,y.1,y.2,R3,S3.mono b3 t3,e9,fun v m4 H4 b4 t4 R4 i4=>⟨k,Nat.lt_succ_self k,m4,y.2,_,accD++[y.1],b2.trans (b3.trans b4),t2.trans (t3.trans t4),R4,S3.mono (b3.trans b4) (t3.trans t4),(isDs_mono (b3.trans b4) (t3.trans t4) _ _ ia).append (mkCons i4 mkNil),e4⟩⟩
      |false=>
       rw[hb,if_neg Bool.false_ne_true]at e6
       cases e6
       rw[if_neg Bool.false_ne_true]
       exact⟨k,Nat.lt_succ_self k,m3,bb.2,_,accD,b2.trans b3,t2.trans t3,R3,S3.mono b3 t3,isDs_mono b3 t3 _ _ ia,e4⟩
theorem targets_ok(G:Good fns dl c X):∀ {is:List Nat}{es:List Expr},CkTs c is es→(∀ i∈is,∀ x,c.N[i]?=some x→X.fn x=true∨c.sc.names.lookup x=some .local)→PGs X es (gIs is)∧(assignEach es X.env).length=is.length∧(assignEach es X.env).findIdx? (·.1)=none
 |_,_,.nil,_=>⟨pgs_nil,rfl,rfl⟩
 |_,_,.cons (i:=i) (x:=x) (pos:=pos) (is:=is) (es:=es) hN hl h,hf=>by
  obtain⟨h1,h2,h3⟩:=targets_ok G h fun j hj=>hf j (List.mem_cons_of_mem _ hj)
  have hg:PG X (.Name x pos) (gName i):=pg_name (by rw[G.N]; exact G.nd) (var_of G hN) (by show X.env.scope.names.lookup x=_∨_=_; rw[G.sc]; exact hl) (by rw[G.sc]; exact hf i List.mem_cons_self x hN)
  refine⟨pgs_cons hg h1 rfl,?_,?_⟩
  ·show(assignEach es X.env).length+1=is.length+1
   rw[h2]
  ·show List.findIdx? (·.1) ((false,assign (.Name x pos) X.env)::assignEach es X.env)=none
   rw[List.findIdx?_cons,h3]
   rfl
theorem target_ok(G:Good fns dl c X){t:T}{tg:Expr}(h:CkT c t tg)(hf:∀ i∈t.slots,∀ x,c.N[i]?=some x→X.fn x=true∨c.sc.names.lookup x=some .local):PG X tg (gT X.K t):=by
 cases h with
 |@var i x pos hN hl=>exact pg_name (by rw[G.N]; exact G.nd) (var_of G hN) (by show X.env.scope.names.lookup x=_∨_=_; rw[G.sc]; exact hl) (by rw[G.sc]; exact hf i (by simp[T.slots]) x hN)
 |@tup is es k pos h=>
  obtain⟨h1,h2,h3⟩:=targets_ok G h hf
  exact pg_tup G.calm h1 h2 h3
theorem e_ok(A:AllOk fns dl n)(G':Good fns dl c X){e:E}{p:Expr}(h:CkE c e p):PE X p (tD X.K fun τ st=>M.stepEv (M.rn fns dl n) τ st e):=by
 have G:=G'
 have hu:X.A.units+64<cLine:=G'.room.units
 cases h.out with
 |@var i x pos hN hv hd hcd=>
  refine(pe_var (var_of G hN) (by rw[G.sc]; exact hv) hd hcd).imp fun σ H Q h=>?_
  refine h.el fun m st τ d st' R0 S0 e q=>?_
  simp only[M.stepEv]at e
  split at e
  ·rename_i d' hd'
   cases e
   obtain⟨v,a,b⟩:=S0.at_ i d hd'
   exact⟨v,a,q.here R0 b⟩
  ·cases e
 |int=>exact pe_int.imp fun σ H Q ⟨m,st,τ,d,st',R0,S0,e,q⟩=>by cases e; exact q.here R0 (mkInt _)
 |bl=>exact pe_bl.imp fun σ H Q ⟨m,st,τ,d,st',R0,S0,e,q⟩=>by cases e; exact q.here R0 (mkBl _)
 |non=>exact pe_non.imp fun σ H Q ⟨m,st,τ,d,st',R0,S0,e,q⟩=>by cases e; exact q.here R0 mkNon
 |@glo x d pos hg hm hd=>
  obtain⟨u,v,h1,h2,h3⟩:=G.mo.glo x d hm
  exact(pe_glob (G.gl hg) h1 h2 hd).imp fun σ H Q ⟨m,st,τ,d,st',R0,S0,e,q⟩=>by cases e; exact q.here R0 (h3 m H)
 |@bin op a b pa pb pos ha hb=>
  exact(pe_op (op_binD op) (A.e c X G a pa ha) (A.e c X G b pb hb)).imp fun σ H Q h=>tD_bin (fa:=fun τ st=>(M.rn fns dl n).ev τ st a) (fb:=fun τ st=>(M.rn fns dl n).ev τ st b) (g:=fun st x y=>M.binop st op x y) h
 |@not a pa pos ha=>
  refine(pe_not (A.e c X G a pa ha)).imp fun σ H Q h=>?_
  refine h.el fun m st τ d st' R0 S0 e q=>?_
  obtain⟨d1,s1,e1,e⟩:=bindD e
  refine⟨m,st,τ,d1,s1,R0,S0,e1,fun v m1 H1 b1 t1 R1 i1=>?_⟩
  cases d1 with
  |bl k=>
   cases e
   exact⟨k,i1.bl,q _ m1 H1 b1 t1 R1 (mkBl _)⟩
  |_=>cases e
 |@cmp op a b pa pb pos ha hb hm=>
  exact(pe_cmpR (op_cmpD hu op) (A.e c X G a pa ha) (A.e c X G b pb hb) hm).imp fun σ H Q h=>tD_bin (fa:=fun τ st=>(M.rn fns dl n).ev τ st a) (fb:=fun τ st=>(M.rn fns dl n).ev τ st b) (g:=fun st x y=>(M.cmpD st op x y).map fun k=>(.bl k,st)) h
 |@cmp2 op op' a b d pa pb pd pos ha hb hd hm=>
  refine(pe_chain (op_cmpD hu op) (op_cmpD hu op') (A.e c X G a pa ha) (A.e c X G b pb hb) (A.e c X G d pd hd) hm).imp fun σ H Q h=>?_
  refine h.el fun m st τ dd st' R0 S0 e q=>?_
  obtain⟨d1,s1,e1,e⟩:=bindD e
  obtain⟨d2,s2,e2,e⟩:=bindD e
  obtain⟨k,e3,e⟩:=bindO e
  refine⟨m,st,τ,d1,s1,R0,S0,e1,fun x m1 H1 b1 t1 R1 i1=>⟨m1,s1,τ,d2,s2,R1,S0.mono b1 t1,e2,fun y m2 H2 b2 t2 R2 i2=>
   ⟨m2,s2,d1,d2,.bl k,s2,R2,isD_mono b2 t2 _ _ i1,i2,by show Option.map _ (M.cmpD s2 op d1 d2)=_; rw[e3]; rfl,fun z m3 H3 b3 t3 R3 i3=>⟨k,i3.bl,?_⟩⟩⟩⟩
  cases k with
  |true=>
   rw[if_pos rfl]at e ⊢
   obtain⟨d3,s3,e4,e⟩:=bindD e
   exact⟨m3,s2,τ,d3,s3,R3,S0.mono (b1.trans (b2.trans b3)) (t1.trans (t2.trans t3)),e4,fun y' m4 H4 b4 t4 R4 i4=>
    ⟨m4,s3,d2,d3,dd,st',R4,isD_mono (b3.trans b4) (t3.trans t4) _ _ i2,i4,e,q.mono (b1.trans (b2.trans (b3.trans b4))) (t1.trans (t2.trans (t3.trans t4)))⟩⟩
  |false=>
   rw[if_neg Bool.false_ne_true]at e ⊢
   cases e
   exact q _ m3 H3 (b1.trans (b2.trans b3)) (t1.trans (t2.trans t3)) R3 (mkBl _)
 |@and2 a b pa pb pos ha hb=>
  refine(pe_and (A.e c X G a pa ha) (pe_one (A.e c X G b pb hb))).imp fun σ H Q h=>?_
  refine h.el fun m st τ d st' R0 S0 e q=>?_
  obtain⟨d1,s1,e1,e⟩:=bindD e
  refine⟨m,st,τ,d1,s1,R0,S0,e1,fun v m1 H1 b1 t1 R1 i1=>?_⟩
  cases d1 with
  |bl k=>
   cases k with
   |true=>exact⟨true,i1.bl,by rw[if_pos rfl]; exact⟨m1,s1,τ,d,st',R1,S0.mono b1 t1,e,q.mono b1 t1⟩⟩
   |false=>cases e; exact⟨false,i1.bl,by rw[if_neg Bool.false_ne_true]; exact q _ m1 H1 b1 t1 R1 (mkBl _)⟩
  |_=>cases e
 |@andN a b pa pb pd r pos ha hb=>
  refine(pe_and (A.e c X G a pa ha) (A.e c X G b _ hb)).imp fun σ H Q h=>?_
  refine h.el fun m st τ d st' R0 S0 e q=>?_
  obtain⟨d1,s1,e1,e⟩:=bindD e
  refine⟨m,st,τ,d1,s1,R0,S0,e1,fun v m1 H1 b1 t1 R1 i1=>?_⟩
  cases d1 with
  |bl k=>
   cases k with
   |true=>exact⟨true,i1.bl,by rw[if_pos rfl]; exact⟨m1,s1,τ,d,st',R1,S0.mono b1 t1,e,q.mono b1 t1⟩⟩
   |false=>cases e; exact⟨false,i1.bl,by rw[if_neg Bool.false_ne_true]; exact q _ m1 H1 b1 t1 R1 (mkBl _)⟩
  |_=>cases e
 |@or2 a b pa pb pos ha hb=>
  refine(pe_or (A.e c X G a pa ha) (pe_one (A.e c X G b pb hb))).imp fun σ H Q h=>?_
  refine h.el fun m st τ d st' R0 S0 e q=>?_
  obtain⟨d1,s1,e1,e⟩:=bindD e
  refine⟨m,st,τ,d1,s1,R0,S0,e1,fun v m1 H1 b1 t1 R1 i1=>?_⟩
  cases d1 with
  |bl k=>
   cases k with
   |false=>exact⟨false,i1.bl,by rw[if_neg Bool.false_ne_true]; exact⟨m1,s1,τ,d,st',R1,S0.mono b1 t1,e,q.mono b1 t1⟩⟩
   |true=>cases e; exact⟨true,i1.bl,by rw[if_pos rfl]; exact q _ m1 H1 b1 t1 R1 (mkBl _)⟩
  |_=>cases e
 |@ite q a b pq pa pb pos hq ha hb=>
  refine(pe_ifExp (A.t c X G q pq hq) (A.e c X G a pa ha) (A.e c X G b pb hb)).imp fun σ H Q h=>?_
  refine h.el fun m st τ d st' R0 S0 e post=>?_
  obtain⟨bb,e1,e⟩:=bindO e
  refine⟨m,st,τ,bb.1,bb.2,R0,S0,e1,fun m1 H1 b1 t1 R1=>?_⟩
  cases hb:bb.1 with
  |true=>
   rw[hb,if_pos rfl]at e
   rw[if_pos rfl]
   exact⟨m1,bb.2,τ,d,st',R1,S0.mono b1 t1,e,post.mono b1 t1⟩
  |false=>
   rw[hb,if_neg Bool.false_ne_true]at e
   rw[if_neg Bool.false_ne_true]
   exact⟨m1,bb.2,τ,d,st',R1,S0.mono b1 t1,e,post.mono b1 t1⟩
 |@tup es ps k pos hs=>
  refine(pe_tup (args_ok A G hs)).imp fun σ H Q h=>?_
  refine h.el fun m st τ d st' R0 S0 e post=>?_
  obtain⟨p,e1,e⟩:=bindO e
  split at e
  ·cases e
  ·rename_i hl
   cases e
   refine⟨m,st,τ,p.1,p.2,R0,S0,e1,fun xs m1 H1 b1 t1 R1 ix=>?_⟩
   have l1:=ix.length
   have l2:=lim_eq
   refine⟨by omega,fun pp hp=>?_⟩
   have sm:=same_new (o:=.tup xs) hp
   exact post _ m1 _ b1 (t1.trans (Tr.of_same sm)) (R1.same sm) (mkTup (SqT.of upd_same) (isDs_mono (Sub.refl _) (Tr.of_same sm) _ _ ix))
 |@lst es ps pos hs=>
  refine(pe_lst (args_ok A G hs)).imp fun σ H Q h=>?_
  refine h.el fun m st τ d st' R0 S0 e post=>?_
  obtain⟨p,e1,e⟩:=bindO e
  split at e
  ·cases e
  ·rename_i hl
   cases e
   refine⟨m,st,τ,p.1,p.2,R0,S0,e1,fun xs m1 H1 b1 t1 R1 ix=>?_⟩
   have l1:=ix.length
   have l2:=lim_eq
   refine⟨by omega,fun pp hp=>?_⟩
   exact post _ (m1++[pp]) _ (b1.trans (Sub.app _ _)) (t1.trans (Tr.of_same (same_new hp))) (R1.new hp ix) R1.newLoc
 |@idx a b pa pb pos ha hb hs=>
  exact(pe_ix ix_D (A.e c X G a pa ha) (A.e c X G b pb hb) hs).imp fun σ H Q h=>tD_bin (fa:=fun τ st=>(M.rn fns dl n).ev τ st a) (fb:=fun τ st=>(M.rn fns dl n).ev τ st b) (g:=fun st x y=>(M.idxD st x y).map fun d=>(d,st)) h
 |@call f x es p ps p0 pos hg hf hd hs=>
  obtain⟨fa,fd,pars,hm,F,hk,hb⟩:=G'.tab f x hf
  have hp:Star p:=by cases hs with|cons h _=>exact h.star
  have ht:(backTo pos (starEach ps X.env)).any (·.1)=false:=by cases hs with|cons _ t=>exact noStars t pos X.env
  refine(pe_call F G.room (G.gl hg) hm hk hb .nil pass0 (args_ok A G hs) hd (hp _ _) ht).imp fun σ H Q h=>?_
  refine h.el fun m st τ d st' R0 S0 e post=>?_
  obtain⟨q,e1,e⟩:=bindO e
  refine⟨m,st,τ,q.1,q.2,R0,S0,e1,fun xs m1 H1 b1 t1 R1 ix=>?_⟩
  show spN X.K fns dl f (xs++[]) H1 Q E0
  have e:(M.rn fns dl n).call f q.1 q.2=some (d,st'):=e
  rw[M.runK_call]at e
  rw[List.append_nil]
  exact⟨m1,q.2,q.1,d,st',R1,ix,e,post.mono b1 t1⟩
 |@bcall b es p ps p0 pos hg hs=>
  have hp:Star p:=by cases hs with|cons h _=>exact h.star
  have ht:(backTo pos (starEach ps X.env)).any (·.1)=false:=by cases hs with|cons _ t=>exact noStars t pos X.env
  have hA:=args_ok A G hs
  cases b with
  |len=>exact(pe_callB call_lenD (G.gl hg) G.mo.len boot_len' hA (by decide) (by decide) (hp _ _) ht).imp fun σ H Q h=>tL_call (fa:=fun τ st=>M.evs ((M.rn fns dl n).ev τ) es st) (g:=M.bLen) h
  |min=>exact(pe_callB (call_minD G.calm) (G.gl hg) G.mo.min boot_min' hA (by decide) (by decide) (hp _ _) ht).imp fun σ H Q h=>tL_call (fa:=fun τ st=>M.evs ((M.rn fns dl n).ev τ) es st) (g:=M.bMin) h
  |max=>exact(pe_callB (call_maxD G.calm) (G.gl hg) G.mo.max boot_max' hA (by decide) (by decide) (hp _ _) ht).imp fun σ H Q h=>tL_call (fa:=fun τ st=>M.evs ((M.rn fns dl n).ev τ) es st) (g:=M.bMax) h
  |tuple=>exact(pe_callTy call_tupleD (G.gl hg) G.mo.tuple boot_tuple' hA (by decide) (by decide) (hp _ _) ht).imp fun σ H Q h=>tL_call (fa:=fun τ st=>M.evs ((M.rn fns dl n).ev τ) es st) (g:=M.bTuple) h
  |list=>exact(pe_callTy call_listD (G.gl hg) G.mo.list boot_list' hA (by decide) (by decide) (hp _ _) ht).imp fun σ H Q h=>tL_call (fa:=fun τ st=>M.evs ((M.rn fns dl n).ev τ) es st) (g:=M.bList) h
  |all=>exact(pe_callB (call_allD G.calm) (G.gl hg) G.mo.all boot_all' hA (by decide) (by decide) (hp _ _) ht).imp fun σ H Q h=>tL_call (fa:=fun τ st=>M.evs ((M.rn fns dl n).ev τ) es st) (g:=M.bAll) h
  |int=>exact(pe_callTy call_intD (G.gl hg) G.mo.int boot_int' hA (by decide) (by decide) (hp _ _) ht).imp fun σ H Q h=>tL_call (fa:=fun τ st=>M.evs ((M.rn fns dl n).ev τ) es st) (g:=M.bInt) h
  |str=>exact(pe_callTy call_strD (G.gl hg) G.mo.str boot_str' hA (by decide) (by decide) (hp _ _) ht).imp fun σ H Q h=>tL_call (fa:=fun τ st=>M.evs ((M.rn fns dl n).ev τ) es st) (g:=M.bStr) h
  |sorted=>exact(pe_callB call_sortedD (G.gl hg) G.mo.sorted boot_sorted' hA (by decide) (by decide) (hp _ _) ht).imp fun σ H Q h=>tL_call (fa:=fun τ st=>M.evs ((M.rn fns dl n).ev τ) es st) (g:=M.bSorted) h
 |@isi1 t a pa p0 p1 pos hg ht hgt ha=>
  refine(pe_callB (call_isi1 t ht) (G.gl hg) G.mo.isinstance boot_isi' (pa_cons (A.e c X G a pa ha) (pa_cons (ty_ok G ht hgt) pa_nil rfl) (ha.star _ _)) (by decide) (by decide) (ha.star _ _) rfl).imp fun σ H Q h=>?_
  refine h.el fun m st τ d st' R0 S0 e post=>?_
  obtain⟨d1,s1,e1,e⟩:=bindD e
  obtain⟨nm,e2,e3⟩:=mapD e
  cases e3
  refine⟨m,st,τ,d1,s1,R0,S0,e1,fun x m1 H1 b1 t1 R1 ix=>?_⟩
  refine⟨m1,s1,d1,nm,x,rfl,R1,ix,e2,post _ m1 H1 b1 t1 R1 ?_⟩
  have:([t].any fun t=>M.tyIs t nm)=M.tyIs t nm:=by simp
  rw[this]
  exact mkBl _
 |@isiN ts a pa p0 ps k p1 pos hlen hg ht ha=>
  obtain⟨h1,h2⟩:=tys_ok G ht
  refine(pe_callB (call_isiN ts h2) (G.gl hg) G.mo.isinstance boot_isi' (pa_cons (A.e c X G a pa ha) (pa_cons (pe_tup h1) pa_nil rfl) (ha.star _ _)) (by decide) (by decide) (ha.star _ _) rfl).imp fun σ H Q h=>?_
  refine h.el fun m st τ d st' R0 S0 e post=>?_
  obtain⟨d1,s1,e1,e⟩:=bindD e
  obtain⟨nm,e2,e3⟩:=mapD e
  cases e3
  refine⟨m,st,τ,d1,s1,R0,S0,e1,fun x m1 H1 b1 t1 R1 ix=>?_⟩
  refine tCs_end _ σ H1 _ ⟨?_,fun pp hp=>?_⟩
  ·rw[List.length_map]
   exact Nat.le_of_lt (small1000 hlen)
  ·have sm:=same_new (o:=.tup (ts.map fun t=>V.ty t.name)) hp
   exact⟨m1,s1,d1,nm,x,pp,rfl,upd_same,R1.same sm,isD_mono (Sub.refl _) (Tr.of_same sm) _ _ ix,e2,post _ m1 _ b1 (t1.trans (Tr.of_same sm)) (R1.same sm) (mkBl _)⟩
 |@append a e x xp pe apos cpos ha he hl=>
  refine(pe_bm PySem.F.plainAttrs_list PySem.F.slot_list_append PySem.F.type_list_append mt_appendD (A.e c X G a _ ha) (args_ok A G (.cons he .nil)) rfl (by rw[he.star]; rfl) hl (he.star _ _) rfl).imp fun σ H Q h=>?_
  refine h.el fun m st τ d st' R0 S0 e0 post=>?_
  obtain⟨d1,s1,e1,e0⟩:=bindD e0
  split at e0
  ·rename_i hm
   obtain⟨q,e2,e0⟩:=bindO e0
   refine⟨m,st,τ,d1,s1,R0,S0,e1,fun v m1 H1 b1 t1 R1 i1=>⟨?_,m1,s1,τ,q.1,q.2,R1,S0.mono b1 t1,e2,fun xs m2 H2 b2 t2 R2 i2=>⟨m2,q.2,d1,q.1,d,st',R2,isD_mono b2 t2 _ _ i1,i2,e0,post.mono (b1.trans b2) (t1.trans t2)⟩⟩⟩
   cases d1 with
   |loc l=>
    have hm:(true&&(M.seqAt s1 (.loc l)).isSome)=true:=hm
    rw[Bool.true_and]at hm
    obtain⟨ds,hds⟩:=Option.isSome_iff_exists.mp hm
    obtain⟨a',xs,_,rfl,hq,_⟩:=R1.seq hds i1
    exact .inl ⟨rfl,xs,hq⟩
   |lst l=>
    have hm:(true&&(M.seqAt s1 (.lst l)).isSome)=true:=hm
    rw[Bool.true_and]at hm
    obtain⟨ds,hds⟩:=Option.isSome_iff_exists.mp hm
    obtain⟨a',xs,_,rfl,hq,_⟩:=R1.seq hds i1
    exact .inl ⟨rfl,xs,hq⟩
   |_=>cases hm
  ·cases e0
 |@gc a p hp hg ha=>exact(pe_gc (A.e c X G a _ ha)).imp fun _ _ _ h=>h
 |@comp t it elt sr tg iter pelt scope pos N hk hcell hfree hloc hlen hsrc hnd hs hi ht htl he=>
  have S:=comp_scope G hk hcell hfree hloc hlen hsrc
  exact(pe_comp (tt:=fun _ H Q=>Q true H) G.calm S (iter_ok A G hi) (fun C fp s H=>target_ok (G.inner hk hnd) ht fun i hi' x hx=>.inr (tlOk_of htl i hi' x hx)) (fun C fp s H=>test_nil) (fun C fp s H=>A.e _ _ (G.inner hk hnd) elt pelt he) (hs X.env)).imp fun σ H Q h=>
   tD_comp (fun _ _ _ q=>q) h
end
end MS
end
section
namespace MS
open PySem PySem.Spec PyProof.Rows L2
open M (D Cell Store Sl E S T Src Fn Out R)
section
variable {fns:List Fn}{dl n:Nat}{c:Ctx}{X:Cx}
theorem tt_val{K:PySem.W.Frag}{r:R}{e:E}{σ:L2.St}{H:Hp}{Q:Bool→Hp→Prop}(hr:∀ τ st,M.stepTst r τ st e=(r.ev τ st e).bind fun p=>(M.truth p.2 p.1).map fun k=>(k,p.2))
  (h:tTs K (fun τ st=>M.stepTst r τ st e) σ H Q):(tD K fun τ st=>r.ev τ st e) σ H fun x H'=>∃ k,TruV K x H' k∧Q k H':=by
 refine h.el fun m st τ d st' R0 S0 e0 q=>?_
 have e0:=(hr τ st).symm.trans e0
 obtain⟨d1,s1,e1,e0⟩:=bindD e0
 obtain⟨k,e2,e3⟩:=mapD e0
 cases e3
 exact⟨m,st,τ,d1,s1,R0,S0,e1,fun x m1 H1 b1 t1 R1 i1=>⟨_,truV_of R1 i1 e2,q m1 H1 b1 t1 R1⟩⟩
theorem tt_and{K:PySem.W.Frag}{r:R}{a b:E}{σ:L2.St}{H:Hp}{Q:Bool→Hp→Prop}(h:tTs K (fun τ st=>M.stepTst r τ st (.and a b)) σ H Q):tAnd (tTs K fun τ st=>r.tst τ st a) (tTs K fun τ st=>r.tst τ st b) σ H Q:=by
 refine h.el fun m st τ d st' R0 S0 e0 q=>?_
 have e0:((r.tst τ st a).bind fun p=>if p.1 then r.tst τ p.2 b else some (false,p.2))=some (d,st'):=e0
 obtain⟨p,e1,e0⟩:=bindO e0
 refine⟨m,st,τ,p.1,p.2,R0,S0,e1,fun m1 H1 b1 t1 R1=>?_⟩
 cases hp:p.1 with
 |true=>
  rw[hp,if_pos rfl]at e0
  rw[if_pos rfl]
  exact⟨m1,p.2,τ,d,st',R1,S0.mono b1 t1,e0,fun m2 H2 b2 t2 R2=>q m2 H2 (b1.trans b2) (t1.trans t2) R2⟩
 |false=>
  rw[hp,if_neg Bool.false_ne_true]at e0
  cases e0
  rw[if_neg Bool.false_ne_true]
  exact q m1 H1 b1 t1 R1
theorem tt_or{K:PySem.W.Frag}{r:R}{a b:E}{σ:L2.St}{H:Hp}{Q:Bool→Hp→Prop}(h:tTs K (fun τ st=>M.stepTst r τ st (.or a b)) σ H Q):tOr (tTs K fun τ st=>r.tst τ st a) (tTs K fun τ st=>r.tst τ st b) σ H Q:=by
 refine h.el fun m st τ d st' R0 S0 e0 q=>?_
 have e0:((r.tst τ st a).bind fun p=>if p.1 then some (true,p.2) else r.tst τ p.2 b)=some (d,st'):=e0
 obtain⟨p,e1,e0⟩:=bindO e0
 refine⟨m,st,τ,p.1,p.2,R0,S0,e1,fun m1 H1 b1 t1 R1=>?_⟩
 cases hp:p.1 with
 |false=>
  rw[hp,if_neg Bool.false_ne_true]at e0
  rw[if_neg Bool.false_ne_true]
  exact⟨m1,p.2,τ,d,st',R1,S0.mono b1 t1,e0,fun m2 H2 b2 t2 R2=>q m2 H2 (b1.trans b2) (t1.trans t2) R2⟩
 |true=>
  rw[hp,if_pos rfl]at e0
  cases e0
  rw[if_pos rfl]
  exact q m1 H1 b1 t1 R1
theorem w_ok(A:AllOk fns dl n)(G':Good fns dl c X){e:E}{op:BoolOp}{ps:List Expr}{pos:Pos}(h:CkE c e (.BoolOp op ps pos)):PW X (.BoolOp op ps pos) (tTs X.K fun τ st=>M.stepTst (M.rn fns dl n) τ st e):=by
 have G:=G'
 cases h.out with
 |@and2 a b pa pb pos ha hb=>exact(pw_and (A.t c X G a pa ha) (pw_and1 (A.t c X G b pb hb))).imp fun σ H Q h=>tt_and h
 |@andN a b pa pb pd r pos ha hb=>exact(pw_and (A.t c X G a pa ha) (A.w c X G b _ _ _ hb)).imp fun σ H Q h=>tt_and h
 |@or2 a b pa pb pos ha hb=>exact(pw_or (A.t c X G a pa ha) (pw_or1 (A.t c X G b pb hb))).imp fun σ H Q h=>tt_or h
 |gc hp hg ha=>cases hp
theorem t_ok(A:AllOk fns dl n)(G':Good fns dl c X){e:E}{p:Expr}(h:CkE c e p):PT X p (tTs X.K fun τ st=>M.stepTst (M.rn fns dl n) τ st e):=by
 have G:=G'
 have hu:X.A.units+64<cLine:=G'.room.units
 have hA:=A.e c X G e p h
 cases h.out with
 |@not a pa pos ha=>
  refine(pt_not (A.t c X G a pa ha)).imp fun σ H Q h=>?_
  refine h.el fun m st τ d st' R0 S0 e0 q=>?_
  obtain⟨p,e1,e2⟩:=mapD e0
  cases e2
  exact⟨m,st,τ,p.1,p.2,R0,S0,e1,fun m1 H1 b1 t1 R1=>q m1 H1 b1 t1 R1⟩
 |and2 ha hb=>exact(w_ok A G' (.and2 ha hb)).pt
 |andN ha hb=>exact(w_ok A G' (.andN ha hb)).pt
 |or2 ha hb=>exact(w_ok A G' (.or2 ha hb)).pt
 |@cmp op a b pa pb pos ha hb hm=>
  refine(pt_cmpR (op_cmpD hu op) (A.e c X G a pa ha) (A.e c X G b pb hb) hm).imp fun σ H Q h=>?_
  refine h.el fun m st τ d st' R0 S0 e0 q=>?_
  obtain⟨d1,s1,e1,e0⟩:=bindD e0
  obtain⟨d2,s2,e2,e0⟩:=bindD e0
  obtain⟨k,e3,e4⟩:=mapD e0
  cases e4
  exact⟨m,st,τ,d1,s1,R0,S0,e1,fun x m1 H1 b1 t1 R1 i1=>⟨m1,s1,τ,d2,s2,R1,S0.mono b1 t1,e2,fun y m2 H2 b2 t2 R2 i2=>
   ⟨m2,s2,d1,d2,.bl d,s2,R2,isD_mono b2 t2 _ _ i1,i2,by show Option.map _ (M.cmpD s2 op d1 d2)=_; rw[show M.cmpD s2 op d1 d2=some d from e3]; rfl,fun z m3 H3 b3 t3 R3 i3=>⟨d,i3.bl,q m3 H3 (b1.trans (b2.trans b3)) (t1.trans (t2.trans t3)) R3⟩⟩⟩⟩
 |@cmp2 op op' a b d pa pb pd pos ha hb hd hm=>
  refine(pt_chain (op_cmpD hu op) (op_cmpD hu op') (A.e c X G a pa ha) (A.e c X G b pb hb) (A.e c X G d pd hd) hm).imp fun σ H Q h=>?_
  refine h.el fun m st τ dd st' R0 S0 e q=>?_
  obtain⟨d1,s1,e1,e⟩:=bindD e
  obtain⟨d2,s2,e2,e⟩:=bindD e
  obtain⟨k,e3,e⟩:=bindO e
  refine⟨m,st,τ,d1,s1,R0,S0,e1,fun x m1 H1 b1 t1 R1 i1=>⟨m1,s1,τ,d2,s2,R1,S0.mono b1 t1,e2,fun y m2 H2 b2 t2 R2 i2=>
   ⟨m2,s2,d1,d2,.bl k,s2,R2,isD_mono b2 t2 _ _ i1,i2,by show Option.map _ (M.cmpD s2 op d1 d2)=_; rw[show M.cmpD s2 op d1 d2=some k from e3]; rfl,fun z m3 H3 b3 t3 R3 i3=>⟨k,i3.bl,?_⟩⟩⟩⟩
  cases k with
  |true=>
   rw[if_pos rfl]at e ⊢
   obtain⟨d3,s3,e4,e⟩:=bindD e
   obtain⟨k',e5,e6⟩:=mapD e
   cases e6
   exact⟨m3,s2,τ,d3,s3,R3,S0.mono (b1.trans (b2.trans b3)) (t1.trans (t2.trans t3)),e4,fun y' m4 H4 b4 t4 R4 i4=>
    ⟨m4,s3,d2,d3,.bl dd,s3,R4,isD_mono (b3.trans b4) (t3.trans t4) _ _ i2,i4,by show Option.map _ (M.cmpD s3 op' d2 d3)=_; rw[show M.cmpD s3 op' d2 d3=some dd from e5]; rfl,
     fun z m5 H5 b5 t5 R5 i5=>⟨dd,i5.bl,q m5 H5 (b1.trans (b2.trans (b3.trans (b4.trans b5)))) (t1.trans (t2.trans (t3.trans (t4.trans t5)))) R5⟩⟩⟩
  |false=>
   rw[if_neg Bool.false_ne_true]at e ⊢
   cases e
   exact⟨false,rfl,q m3 H3 (b1.trans (b2.trans b3)) (t1.trans (t2.trans t3)) R3⟩
 |ite hq ha hb=>exact fun pins s σ H Q I q=>by obtain⟨m,st,τ,d,st',_,_,z,_⟩:=q; cases z
 |gc hp hg ha=>
  cases p with
  |Call=>exact(pt_truth hA fun _=>rfl).imp fun σ H Q h=>tt_val (fun _ _=>rfl) h
  |ListComp=>exact(pt_truth hA fun _=>rfl).imp fun σ H Q h=>tt_val (fun _ _=>rfl) h
  |List=>exact(pt_truth hA fun _=>rfl).imp fun σ H Q h=>tt_val (fun _ _=>rfl) h
  |BinOp=>exact(pt_truth hA fun _=>rfl).imp fun σ H Q h=>tt_val (fun _ _=>rfl) h
  |Subscript=>exact(pt_truth hA fun _=>rfl).imp fun σ H Q h=>tt_val (fun _ _=>rfl) h
  |_=>cases hp
 |_=>exact(pt_truth hA fun _=>rfl).imp fun σ H Q h=>tt_val (fun _ _=>rfl) h
theorem S_nx{K:PySem.W.Frag}{m:List Addr}{H:Hp}{τ:Sl}{st':Store}{Dn:Ends}{σ:L2.St}(p:PostO K m H (.nx τ) st' Dn){m':List Addr}{H':Hp}(b:Sub m m')(t:Tr H H')(R0:Rel K m' st' H')(S0:SlotOk K m' H' τ σ):Dn.nx σ H':=p m' H' b t R0 σ S0
theorem set_ok{K:PySem.W.Frag}{r:R}{i:Nat}{e:E}{te:TE}{Dn:Ends}{σ:L2.St}{H:Hp}(hte:∀ Q,(tD K fun τ st=>r.ev τ st e) σ H Q→te σ H Q)(h:tS K (fun τ st=>M.stepEx r τ st (.set (.var i) e)) Dn σ H):tAsg te (gName i) Dn σ H:=by
 refine h.el fun m st τ o st' R0 S0 e0 q=>?_
 obtain⟨d1,s1,e1,e0⟩:=bindD e0
 obtain⟨τ',e2,e3⟩:=mapD e0
 cases e3
 have e2:(if i<τ.length then some (τ.set i (some d1)) else none)=some τ':=e2
 split at e2
 ·cases e2
  exact hte _ ⟨m,st,τ,d1,s1,R0,S0,e1,fun x m1 H1 b1 t1 R1 i1=>S_nx q b1 t1 R1 ((S0.mono b1 t1).put i1)⟩
 ·cases e2
theorem s1_ok(IH:∀ j,j≤n→AllOk fns dl j)(G:Good fns dl c X)(hf:∀ x,X.fn x=true){s:S}{p:Stmt}(h:CkS c s p):PS X p (tS X.K fun τ st=>M.stepEx (M.rn fns dl n) τ st s):=by
 have A:=IH n (Nat.le_refl n)
 have hN:X.N.Nodup:=by rw[G.N]; exact G.nd
 have loc:∀ {x:Str},(c.sc.names.lookup x=some .local∨c.sc.names.lookup x=some .cell)→Loc X.env.scope x:=fun {x} h=>by show X.env.scope.names.lookup x=_∨_=_; rw[G.sc]; exact h
 cases h with
 |@set i e x p pos pos' hi hl he hs=>exact(ps_set hN (var_of G hi) (loc hl) (A.e c X G e p he) (hs X.env) (.inl (hf x))).imp fun D σ H h=>set_ok (fun _ q=>q) h
 |@setIx a i e pa pi pe tpos pos ha hi he hs hw h1 hA=>
  refine(ps_asg (A.e c X G e pe he) (pg_sub (A.e c X G a pa ha) (A.e c X G i pi hi) set_D (hA X.env)) (hs X.env) (hw X.env) (h1 X.env)).imp fun Dn σ H h=>?_
  refine h.el fun m st τ o st' R0 S0 e0 q=>?_
  obtain⟨d1,s1,e1,e0⟩:=bindD e0
  obtain⟨d2,s2,e2,e0⟩:=bindD e0
  obtain⟨d3,s3,e3,e0⟩:=bindD e0
  obtain⟨s4,e4,e5⟩:=mapD e0
  cases e5
  exact⟨m,st,τ,d1,s1,R0,S0,e1,fun x m1 H1 b1 t1 R1 i1=>⟨m1,s1,τ,d2,s2,R1,S0.mono b1 t1,e2,fun y m2 H2 b2 t2 R2 i2=>⟨m2,s2,τ,d3,s3,R2,S0.mono (b1.trans b2) (t1.trans t2),e3,fun z m3 H3 b3 t3 R3 i3=>
   ⟨m3,s3,d2,d3,d1,_,R3,isD_mono b3 t3 _ _ i2,i3,isD_mono (b2.trans b3) (t2.trans t3) _ _ i1,e4,fun m4 H4 b4 t4 R4=>S_nx q (b1.trans (b2.trans (b3.trans b4))) (t1.trans (t2.trans (t3.trans t4))) R4 (S0.mono (b1.trans (b2.trans (b3.trans b4))) (t1.trans (t2.trans (t3.trans t4))))⟩⟩⟩⟩
 |@expr e p pos he hs=>
  refine(ps_expr (A.e c X G e p he) (hs X.env)).imp fun Dn σ H h=>?_
  refine h.el fun m st τ o st' R0 S0 e0 q=>?_
  obtain⟨p,e1,e2⟩:=mapD e0
  cases e2
  exact⟨m,st,τ,p.1,p.2,R0,S0,e1,fun x m1 H1 b1 t1 R1 i1=>S_nx q b1 t1 R1 (S0.mono b1 t1)⟩
 |@ret e p pos he=>
  refine(ps_ret (A.e c X G e p he)).imp fun Dn σ H h=>?_
  refine h.el fun m st τ o st' R0 S0 e0 q=>?_
  obtain⟨p,e1,e2⟩:=mapD e0
  cases e2
  exact⟨m,st,τ,p.1,p.2,R0,S0,e1,fun x m1 H1 b1 t1 R1 i1=>q m1 H1 b1 t1 R1 x i1⟩
 |@ite q a b pq pa pb pos hq ha hb=>
  refine(ps_if (A.t c X G q pq hq) (A.s c X G hf a pa ha) (A.s c X G hf b pb hb)).imp fun Dn σ H h=>?_
  refine h.el fun m st τ o st' R0 S0 e0 post=>?_
  obtain⟨p,e1,e0⟩:=bindO e0
  refine⟨m,st,τ,p.1,p.2,R0,S0,e1,fun m1 H1 b1 t1 R1=>?_⟩
  cases hp:p.1 with
  |true=>
   rw[hp,if_pos rfl]at e0
   rw[if_pos rfl]
   exact⟨m1,p.2,τ,o,st',R1,S0.mono b1 t1,e0,post.mono b1 t1⟩
  |false=>
   rw[hp,if_neg Bool.false_ne_true]at e0
   rw[if_neg Bool.false_ne_true]
   exact⟨m1,p.2,τ,o,st',R1,S0.mono b1 t1,e0,post.mono b1 t1⟩
 |@forr t it body tg iter pb pos ht hi hs hb=>
   refine(ps_for (by rw[G.xe]; exact PassesOwn.never) G.calm (iter_ok A G hi) (target_ok G ht fun i _ x _=>.inl (hf x)) (A.s c X G hf body pb hb) (hs X.env)).imp fun Dn σ H h=>?_
   refine h.el fun m st τ o st' R0 S0 e0 post=>?_
   obtain⟨p,e1,e0⟩:=bindO e0
   refine⟨m,st,τ,p.1,p.2,R0,S0,e1,fun m1 H1 J b1 t1 R1 hJ=>?_⟩
   refine⟨fun j k σ' H'=>∃ m2 st2 τ2,Sub m1 m2∧Tr H1 H'∧Rel X.K m2 st2 H'∧SlotOk X.K m2 H' τ2 σ'∧M.loop p.1 (fun τ st d=>(M.setT t d τ).bind fun τ'=>(M.rn fns dl n).ex τ' st body) k j τ2 st2=some (o,st'),
    ⟨_,m1,p.2,τ,Sub.refl _,Tr.refl _,R1,S0.mono b1 t1,e0⟩,?_⟩
   rintro j k σ' H' ⟨m2,st2,τ2,b2,t2,R2,S2,e4⟩
   cases k with
   |zero=>cases e4
   |succ k=>
    have e4:(p.1.at st2 j).bind (fun o=>match o with
     |none=>some (Out.nx τ2,st2)
     |some d=>((M.setT t d τ2).bind fun τ'=>(M.rn fns dl n).ex τ' st2 body).bind fun z=>match z.1 with
      |.nx τ'=>M.loop p.1 (fun τ st d=>(M.setT t d τ).bind fun τ'=>(M.rn fns dl n).ex τ' st body) k (j+1) τ' z.2
      |.ct τ'=>M.loop p.1 (fun τ st d=>(M.setT t d τ).bind fun τ'=>(M.rn fns dl n).ex τ' st body) k (j+1) τ' z.2
      |.bk τ'=>some (.nx τ',z.2)
      |.rt v=>some (.rt v,z.2))=some (o,st'):=e4
    obtain⟨oo,e5,e4⟩:=bindO e4
    cases oo with
    |none=>
     cases e4
     exact .inl ⟨(hJ.mono b2 t2).done R2 e5,S_nx post (b1.trans b2) (t1.trans t2) R2 S2⟩
    |some d=>
     obtain⟨hgo,hy⟩:=(hJ.mono b2 t2).next R2 e5
     dsimp only at e4
     obtain⟨z,e6,e4⟩:=bindO e4
     obtain⟨τ3,e7,e6⟩:=bindO e6
     refine .inr ⟨hgo,fun σ3 H3=>∃ m3 st3 τ3,Sub m1 m3∧Tr H1 H3∧Rel X.K m3 st3 H3∧SlotOk X.K m3 H3 τ3 σ3∧M.loop p.1 (fun τ st d=>(M.setT t d τ).bind fun τ'=>(M.rn fns dl n).ex τ' st body) k (j+1) τ3 st3=some (o,st'),fun σ3 H3 w3=>⟨k,Nat.lt_succ_self k,w3⟩,fun x H2 hyl=>?_⟩
     obtain⟨sm,ix⟩:=hy x H2 hyl
     have t2:=t2.trans (Tr.of_same sm)
     have R2:=R2.same sm
     have S2:=S2.mono (Sub.refl _) (Tr.of_same sm)
     refine gT_of ix S2 e7 fun σ3 S3=>?_
     refine⟨m2,st2,_,z.1,z.2,R2,S3,e6,fun m3 H3 b3 t3 R3=>?_⟩
     cases hz:z.1 with
     |nx τ4=>
      rw[hz]at e4
      exact fun σ4 S4=>⟨m3,z.2,τ4,b2.trans b3,t2.trans t3,R3,S4,e4⟩
     |ct τ4=>
      rw[hz]at e4
      exact fun σ4 S4=>⟨m3,z.2,τ4,b2.trans b3,t2.trans t3,R3,S4,e4⟩
     |bk τ4=>
      rw[hz]at e4
      cases e4
      exact fun σ4 S4=>S_nx post (b1.trans (b2.trans b3)) (t1.trans (t2.trans t3)) R3 S4
     |rt v=>
      rw[hz]at e4
      cases e4
      exact fun w iw=>post m3 H3 (b1.trans (b2.trans b3)) (t1.trans (t2.trans t3)) R3 w iw
theorem ss_ok(IH:∀ j,j≤n→AllOk fns dl j)(G:Good fns dl c X)(hf:∀ x,X.fn x=true):∀ {ss:List S}{ps:List Stmt},CkSs c ss ps→PSs X ps (tS X.K fun τ st=>M.exs (M.stepEx (M.rn fns dl n)) ss τ st)
 |_,_,.nil=>pss_nil.imp fun Dn σ H h=>by
  refine h.el fun m st τ o st' R0 S0 e0 q=>?_
  cases e0
  exact q m H (Sub.refl m) (Tr.refl H) R0 _ S0
 |_,_,.doc t=>(pss_cons ps_doc (ss_ok IH G hf t)).imp fun Dn σ H h=>h
 |_,_,.cons (s:=s) (ss:=ss) h t=>(pss_cons (s1_ok IH G hf h) (ss_ok IH G hf t)).imp fun Dn σ H hq=>by
  refine hq.el fun m st τ o st' R0 S0 e0 q=>?_
  obtain⟨p,e1,e0⟩:=bindO e0
  refine⟨m,st,τ,p.1,p.2,R0,S0,e1,fun m1 H1 b1 t1 R1=>?_⟩
  cases hp:p.1 with
  |nx τ1=>
   rw[hp]at e0
   exact fun σ1 S1=>⟨m1,p.2,τ1,o,st',R1,S1,e0,q.mono b1 t1⟩
  |rt d=>
   rw[hp]at e0
   cases e0
   exact q m1 H1 b1 t1 R1
  |bk d=>
   rw[hp]at e0
   cases e0
   exact q m1 H1 b1 t1 R1
  |ct d=>
   rw[hp]at e0
   cases e0
   exact q m1 H1 b1 t1 R1
end
theorem allOk(fns:List Fn)(dl:Nat):∀ n j,j≤n→AllOk fns dl j:=by
 intro n
 induction n with
 |zero=>intro j h; rw[Nat.le_zero.mp h]; exact allOk_zero fns dl
 |succ n ih=>
  intro j h
  rcases Nat.lt_or_ge j (n+1) with z|z
  ·exact ih j (by omega)
  ·have e:j=n+1:=by omega
   subst e
   have A:=ih n (Nat.le_refl n)
   exact⟨fun c X G e p h=>e_ok A G h,fun c X G e p h=>t_ok A G h,fun c X G e op ps pos h=>w_ok A G h,fun c X G hf ss ps h=>ss_ok ih G hf h⟩
structure FText (K:PySem.W.Frag) (mg:Str→Option Value) (fns:List Fn) (names:List Str) (glo:Glo) (f:Nat) (x:Str):Prop where
 ex:∃ (fa:Addr) (fd:FuncData) (st:Stmt) (N ps:List Str) (F:Fn),fns[f]?=some F∧Fun K x x st fa fd∧mg x=some (.ref fa)∧Binds K fd ps []∧FnScope N ps (defScope st)∧CkSs ⟨N,defScope st,names,glo⟩ F.body (defBody st)∧F.np=ps.length∧F.nl=N.length
theorem fun_ok{P:Program}{w:World}{K:PySem.W.Frag}{mg:Str→Option Value}{base:Heap}{fns:List Fn}{names:List Str}{glo:Glo}{n f:Nat}{x:Str}{fa:Addr}{fd:FuncData}{st:Stmt}{N ps:List Str}{F:Fn}(ih:FTab P w K mg base fns names n)(Mg:Mo K mg glo w.params)
  (hF:fns[f]?=some F) (hfun:Fun K x x st fa fd) (hsc:FnScope N ps (defScope st)) (hck:CkSs ⟨N,defScope st,names,glo⟩ F.body (defBody st)) (hnp:F.np=ps.length) (hnl:F.nl=N.length):FnOk P w K mg base CX0 (n+1) fa fd ps (spN K fns (n+1) f):=by
 have unf:∀ {ds:List D}{st0 st':Store}{d:D},M.callD fns (n+1) f ds st0=some (d,st')→ds.length=F.np∧((M.Lv fns n).ex (ds.map some++List.replicate (F.nl - ds.length) none) st0 F.body).bind (fun p=>match p.1 with
   |.rt d=>some (d,p.2)
   |.nx _=>some (D.non,p.2)
   |_=>none)=some (d,st'):=fun {ds st0 st' d} e=>by
  have e:M.stepCall fns (M.Lv fns n) f ds st0=some (d,st'):=e
  unfold M.stepCall at e
  rw[hF]at e
  dsimp only at e
  split at e
  ·rename_i hl
   exact⟨hl,e⟩
  ·cases e
 refine hfun.ok hsc (fun vs H Q E h=>?_) (fun cdv A outer s H vs Q E hr h=>?_)
 ·obtain⟨m,st0,ds,d,st',_,ix,e,_⟩:=h
  rw[← ix.length,(unf e).1,hnp]
 ·obtain⟨m,st0,ds,d,st',R0,ix,e,q⟩:=h
  obtain⟨hl,e⟩:=unf e
  obtain⟨p,e1,e2⟩:=bindO e
  obtain⟨k,e1⟩:=M.lim1_is e1
  have G:Good fns n ⟨N,defScope st,names,glo⟩ (cxOf CX0 P w K mg base N x (defScope st) fa cdv A outer s H E).nox:=⟨hr,rfl,rfl,rfl,hsc.nd,hsc.kind,ih,Mg,rfl⟩
  refine⟨_,(allOk fns n k k (Nat.le_refl k)).s _ _ G (fun _=>rfl) F.body (defBody st) hck,?_⟩
  refine⟨m,st0,ds.map some++List.replicate (F.nl - ds.length) none,p.1,p.2,R0,⟨?_,fun i d0 hi=>?_⟩,e1,fun m1 H1 b1 t1 R1=>?_⟩
  ·unfold L2.start
   rw[List.length_append,List.length_append,List.length_map,List.length_map,List.length_replicate,List.length_replicate,hnl,ix.length]
  ·unfold L2.start
   by_cases hlt:i<ds.length
   ·rw[List.getElem?_append_left (by simpa using hlt),List.getElem?_map]at hi
    have e3:ds[i]?=some d0:=by
     cases z:ds[i]? with
     |none=>rw[z]at hi; cases hi
     |some y=>rw[z]at hi; cases hi; rfl
    obtain⟨v,e4,iv⟩:=ix.get e3
    refine⟨v,?_,iv⟩
    rw[List.getElem?_append_left (by rw[List.length_map,← ix.length]; exact hlt),List.getElem?_map,e4]
    rfl
   ·rw[List.getElem?_append_right (by simpa using hlt),List.getElem?_replicate]at hi
    split at hi<;>cases hi
  ·cases hp:p.1 with
   |rt d1=>
    rw[hp]at e2
    cases e2
    exact fun v iv=>q v m1 H1 b1 t1 R1 iv
   |nx τ1=>
    rw[hp]at e2
    cases e2
    exact fun σ1 S1=>q _ m1 H1 b1 t1 R1 mkNon
   |bk d1=>rw[hp]at e2; cases e2
   |ct d1=>rw[hp]at e2; cases e2
theorem tab_ok{P:Program}{w:World}{K:PySem.W.Frag}{mg:Str→Option Value}{base:Heap}{fns:List Fn}{names:List Str}{glo:Glo}(T:∀ f x,names[f]?=some x→FText K mg fns names glo f x)(Mg:Mo K mg glo w.params):
  ∀ n,FTab P w K mg base fns names n:=by
 intro n
 induction n with
 |zero=>
  intro f x hx
  obtain⟨fa,fd,st,N,ps,F,hF,hfun,hm,hb,hsc,hck,hnp,hnl⟩:=(T f x hx).ex
  refine⟨fa,fd,ps,hm,?_,hfun.kp,hb⟩
  refine⟨fun vs H Q E h=>?_,fun A outer s H args us vs Q E hr he hbb hv h=>?_⟩
  ·obtain⟨m,st,ds,d,st',_,_,e,_⟩:=h; cases e
  ·obtain⟨m,st,ds,d,st',_,_,e,_⟩:=h; cases e
 |succ n ih=>
  intro f x hx
  obtain⟨fa,fd,st,N,ps,F,hF,hfun,hm,hb,hsc,hck,hnp,hnl⟩:=(T f x hx).ex
  exact⟨fa,fd,ps,hm,fun_ok ih Mg hF hfun hsc hck hnp hnl,hfun.kp,hb⟩
noncomputable def spLaw(K:PySem.W.Frag):Sp:=fun vs H Q _=>∃ (a:Addr) (ns:List Int),vs=[.ref a]∧SqF K H a (ns.map V.int)∧ns.length≤63∧∀ H',Q (.bl true) H'
theorem law_sp{K:PySem.W.Frag}{fns:List Fn}{n f:Nat}(h:∀ ns:List Int,ns.length≤63→∃ st',M.callD fns n f [.lst (ns.map D.int)] []=some (.bl true,st'))(vs:List V)(H:Hp)(Q:VK)(E:XK)(q:spLaw K vs H Q E):spN K fns n f vs H Q E:=by
 obtain⟨a,ns,rfl,hS,hl,k⟩:=q
 obtain⟨st',e⟩:=h ns hl
 refine⟨[],[],[.lst (ns.map D.int)],.bl true,st',⟨rfl,fun l l' b c c' e1 e2 e3 e4 w w'=>?_,fun l c b e1 e2=>?_⟩,mkCons (mkLst hS (isDs_ints ns)) mkNil,e,fun v m' H' _ _ _ i=>?_⟩
 ·simp at e3
 ·simp at e1
 ·rw[i.bl]; exact k H'
theorem only_sq{K:PySem.W.Frag}{H:Hp}{a:Addr}{xs:List V}(hO:Only H)(h:SqL K H a xs):SqF K H a xs:=by
 rcases h with (h|⟨o,h⟩)|h
 ·rcases hO a with z|⟨ob,ys,z⟩
  ·rw[h]at z; cases z
  ·rw[h]at z; cases z
 ·exact .inl ⟨o,h⟩
 ·exact .inr h
theorem walk_law{l:PySem.W.OpenLaw}{k:Nat}{q:Program}{loose:List Str}{XP:(Str→Option Value)→Heap→Prop}{YP:World→Heap→Prop}{d:DefRec}{K:Params→PySem.W.Frag}{x:Str}(hn:l.most=some 63)(hdf:d.params.defaults=[])(hr:Room k callerA)
  (hY:∀ (w:World) (h:Heap),YP w h→(K w.params).In h)
  (F:∀ (w:World) (mg:Str→Option Value) (fa:Addr) (h:Heap),(K w.params).In h→h.Ns mainGlobals mg→mg d.name=some (.ref fa)→
   ∃ fd:FuncData,(∀ (s:Shared) (u:Value),BindsTo s fd ⟨[u],[]⟩ [(x,u)])∧∀ base:Heap,(K w.params).In base→base.Ns mainGlobals mg→FnOk l.prog w (K w.params) mg base CX0 k fa fd [x] (spLaw (K w.params))) :
  PySem.W.WalkO q loose XP YP l.row.toRowW d [] (fun f vs=>PySem.call f vs):=
 L2.walk_of (n:=63) (k:=k) (x:=x) (CX:=fun _=>CX0) (sp:=fun w=>spLaw (K w.params)) hn (by decide) hdf hr hY F (fun _ _ a ns hl hO hS=>⟨a,ns,rfl,only_sq hO hS,hl,fun _=>rfl⟩) fun _ _ _ _ _ z=>z
noncomputable def srcOk(sr:List (Option Nat))(N cN:List Str)(scope:Scope):Bool:=(List.range sr.length).all fun j=>match sr[j]? with
 |some (some i)=>match N[j]? with
  |some x=>cN[i]?==some x&&scope.names.lookup x==some .free
  |none=>false
 |_=>true
theorem src_of{sr:List (Option Nat)}{N cN:List Str}{scope:Scope}(h:srcOk sr N cN scope=true):∀ (j i:Nat),sr[j]?=some (some i)→∃ x,N[j]?=some x∧cN[i]?=some x∧scope.names.lookup x=some .free:=by
 intro j i e
 unfold srcOk at h
 rw[List.all_eq_true]at h
 have:=h j (List.mem_range.mpr (List.getElem?_eq_some_iff.mp e).1)
 rw[e]at this
 dsimp only at this
 split at this
 ·rename_i x hx
  rw[Bool.and_eq_true,beq_iff_eq,beq_iff_eq]at this
  exact⟨x,hx,this.1,this.2⟩
 ·cases this
inductive FnK (K:PySem.W.Frag) (x:Str) (st:Stmt):Addr→FuncData→Prop
 |mk {f:Addr}{od an:Option Addr}{sl:Array (Option Value)}{oc kV dc pm cd ct:Value}(a:PySem.W.nsIn K mainGlobals x=some (some (.ref f))) (l:K.lookup f=some ⟨oc,od,.func (PySem.W.fnOf x x (defArgs st) (defBody st) (defScope st) .none kV dc pm an cd ct),sl⟩) (c:PySem.W.codeIn K cd x=true) (k:PySem.W.keepIn K (.ref f)=true):FnK K x st f (PySem.W.fnOf x x (defArgs st) (defBody st) (defScope st) .none kV dc pm an cd ct)
theorem FnK.text{K:PySem.W.Frag}{h:Heap}{mg:Str→Option Value}{fns:List Fn}{names:List Str}{glo:Glo}{f:Nat}{x:Str}{st:Stmt}{fa:Addr}{fd:FuncData}{N ps:List Str}(q:FnK K x st fa fd)(X:K.In h)(G:h.Ns mainGlobals mg)(F:Fn)(sc:FnScope N ps (defScope st))(ck:CkSs ⟨N,defScope st,names,glo⟩ F.body (defBody st))(hF:fns[f]?=some F)(hnp:F.np=ps.length)(hnl:F.nl=N.length)
  (b:∀ (kV doc pm:Value) (an:Option Addr) (cdv ct:Value) (us:List Value),us.length=ps.length→bindArgs (PySem.W.fnOf x x (defArgs st) (defBody st) (defScope st) .none kV doc pm an cdv ct) ⟨us,[]⟩=pure (ps.zip us)):FText K mg fns names glo f x:=by
 cases q with
 |mk a l c k=>exact⟨_,_,st,N,ps,F,hF,fun_mk l c k,PySem.W.mg_of X G a,(fun_mk l c k).binds b,sc,ck,hnp,hnl⟩
inductive NoB (K:PySem.W.Frag):Prop
 |mk (z0:PySem.W.nsIn K mainGlobals "len" = some none) (z1:PySem.W.nsIn K mainGlobals "min" = some none) (z2:PySem.W.nsIn K mainGlobals "max" = some none) (z3:PySem.W.nsIn K mainGlobals "tuple" = some none) (z4:PySem.W.nsIn K mainGlobals "list" = some none) (z5:PySem.W.nsIn K mainGlobals "all" = some none) (z6:PySem.W.nsIn K mainGlobals "sorted" = some none) (z7:PySem.W.nsIn K mainGlobals "isinstance" = some none) (z8:PySem.W.nsIn K mainGlobals "range" = some none) (z9:PySem.W.nsIn K mainGlobals "int" = some none) (z10:PySem.W.nsIn K mainGlobals "bool" = some none) (z11:PySem.W.nsIn K mainGlobals "str" = some none) (z12:PySem.W.nsIn K mainGlobals "zip" = some none) (z13:PySem.W.nsIn K mainGlobals "any" = some none) (z14:PySem.W.nsIn K mainGlobals "enumerate" = some none) (z15:PySem.W.nsIn K mainGlobals "reversed" = some none) (z16:PySem.W.nsIn K mainGlobals "sum" = some none) (z17:PySem.W.nsIn K mainGlobals "set" = some none) (z18:PySem.W.nsIn K mainGlobals "dict" = some none):NoB K
theorem NoB.mo{K:PySem.W.Frag}{h:Heap}{mg:Str→Option Value}{glo:Glo}{prm:Params}(z:NoB K)(X:K.In h)(G:h.Ns mainGlobals mg)(h1:∀ x ks ds,(x,ks,ds)∈glo.ds→∃ a,mg x=some (.ref a)∧FDict prm K a ks ds)(h2:∀ x d,(x,d)∈glo.cs→∃ u v,mg x=some u∧RelV v u∧∀ m H,IsD K m H d v):Mo K mg glo prm:=by
 obtain⟨z0,z1,z2,z3,z4,z5,z6,z7,z8,z9,z10,z11,z12,z13,z14,z15,z16,z17,z18⟩:=z
 exact⟨h1,h2,PySem.W.mg_none_of X G z0,PySem.W.mg_none_of X G z1,PySem.W.mg_none_of X G z2,PySem.W.mg_none_of X G z3,PySem.W.mg_none_of X G z4,PySem.W.mg_none_of X G z5,PySem.W.mg_none_of X G z6,PySem.W.mg_none_of X G z7,PySem.W.mg_none_of X G z8,PySem.W.mg_none_of X G z9,PySem.W.mg_none_of X G z10,PySem.W.mg_none_of X G z11,PySem.W.mg_none_of X G z12,PySem.W.mg_none_of X G z13,PySem.W.mg_none_of X G z14,PySem.W.mg_none_of X G z15,PySem.W.mg_none_of X G z16,PySem.W.mg_none_of X G z17,PySem.W.mg_none_of X G z18⟩
inductive TupK (K:PySem.W.Frag) (a:Addr) (vs:Array Value):Prop
 |mk {gd:Option Addr}{gn:Nat}{gs:Array (Option Value)}(h:K.lookup a=some ⟨.type "tuple",gd,.seq vs gn,gs⟩):TupK K a vs
end MS
end
namespace K02
open PySem PySem.Spec PyProof.Rows L2 MS
open M (D Cell Store Sl E S T Src Fn Out R)
def top(i:Nat):Stmt:=PySem.Challenge.pw_dipright_k02_rectangles_parted.main.body.getD i (.Pass ⟨0,0,0,0⟩)
noncomputable def names:List Str:=["cells","can_part","parted","_law_draw","_law_same","_law_rect","law"]
noncomputable def glo:Glo:=⟨[("LEFT",(.int 0)),("LOW",(.int 3)),("RIGHT",(.int 2)),("TOP",(.int 1))],[]⟩
abbrev s_cells:Stmt:=top 5
theorem sc_cells:FnScope ["rect","found","y","x"] ["rect"] (defScope s_cells):=⟨rfl,rfl,rfl,by decide +kernel,rfl,by decide +kernel,by decide +kernel⟩
theorem ck_cells:CkSs ⟨["rect","found","y","x"],defScope s_cells,names,glo⟩ b_cells (defBody s_cells):=
  (.cons (.st (.lst .nil))
  (.cons (.forr (.var rfl (.inl rfl)) (.rng2 rfl (.idx .v (.glo rfl (.tail _ (.tail _ (.tail _ (.head _)))) rfl)) (.bin (.idx .v (.glo rfl (.tail _ (.head _)) rfl)) .int)) (fun _ _=>rfl) (.cons (.forr (.var rfl (.inl rfl)) (.rng2 rfl (.idx .v (.glo rfl (.head _) rfl)) (.bin (.idx .v (.glo rfl (.tail _ (.tail _ (.head _))) rfl)) .int)) (fun _ _=>rfl) (.cons (.expr (.append .v (.tup (.cons .v (.cons .v .nil))) rfl) (fun _=>rfl))
  .nil))
  .nil))
  (.cons (.ret .v)
  .nil)))
abbrev s_can_part:Stmt:=top 6
theorem sc_can_part:FnScope ["rect","side","line"] ["rect","side","line"] (defScope s_can_part):=⟨rfl,rfl,rfl,by decide +kernel,rfl,by decide +kernel,by decide +kernel⟩
theorem ck_can_part:CkSs ⟨["rect","side","line"],defScope s_can_part,names,glo⟩ b_can_part (defBody s_can_part):=
  (.cons (.ret (.cmp2 (.idx .v .v) .v (.idx .v (.bin .v .int)) (by with_unfolding_all rfl)))
  .nil)
abbrev s_parted:Stmt:=top 7
theorem sc_parted:FnScope ["rect","side","line","ahead","behind"] ["rect","side","line"] (defScope s_parted):=⟨rfl,rfl,rfl,by decide +kernel,rfl,by decide +kernel,by decide +kernel⟩
theorem ck_parted:CkSs ⟨["rect","side","line","ahead","behind"],defScope s_parted,names,glo⟩ b_parted (defBody s_parted):=
  (.cons (.ite (.not (.gc (.call (.cons .v (.cons .v (.cons .v .nil)))))) (.cons (.ret .non)
  .nil) .nil)
  (.cons (.ite (.cmp .v .int) (.cons (.st (.tup (.cons (.idx .v (.glo rfl (.head _) rfl)) (.cons (.idx .v (.glo rfl (.tail _ (.tail _ (.tail _ (.head _)))) rfl)) (.cons (.bin .v .int) (.cons (.idx .v (.glo rfl (.tail _ (.head _)) rfl)) .nil))))))
  (.cons (.st (.tup (.cons .v (.cons (.idx .v (.glo rfl (.tail _ (.tail _ (.tail _ (.head _)))) rfl)) (.cons (.idx .v (.glo rfl (.tail _ (.tail _ (.head _))) rfl)) (.cons (.idx .v (.glo rfl (.tail _ (.head _)) rfl)) .nil))))))
  .nil)) (.cons (.st (.tup (.cons (.idx .v (.glo rfl (.head _) rfl)) (.cons (.idx .v (.glo rfl (.tail _ (.tail _ (.tail _ (.head _)))) rfl)) (.cons (.idx .v (.glo rfl (.tail _ (.tail _ (.head _))) rfl)) (.cons (.bin .v .int) .nil))))))
  (.cons (.st (.tup (.cons (.idx .v (.glo rfl (.head _) rfl)) (.cons .v (.cons (.idx .v (.glo rfl (.tail _ (.tail _ (.head _))) rfl)) (.cons (.idx .v (.glo rfl (.tail _ (.head _)) rfl)) .nil))))))
  .nil)))
  (.cons (.ret (.tup (.cons .v (.cons .v .nil))))
  .nil)))
abbrev s_law_draw:Stmt:=top 9
theorem sc_law_draw:FnScope ["_law_script","_law_k","_law_j","_law_many","_law_cell","_law_turn","_law_rest","_law_step","_law_one","_law_two"] ["_law_script","_law_k","_law_j","_law_many"] (defScope s_law_draw):=⟨rfl,rfl,rfl,by decide +kernel,rfl,by decide +kernel,by decide +kernel⟩
theorem ck_law_draw:CkSs ⟨["_law_script","_law_k","_law_j","_law_many","_law_cell","_law_turn","_law_rest","_law_step","_law_one","_law_two"],defScope s_law_draw,names,glo⟩ b_law_draw (defBody s_law_draw):=
  (.cons (.st .int)
  (.cons (.st .int)
  (.cons (.ite (.cmp (.bcall (.cons .v .nil)) .int) (.cons (.st (.idx .v (.bin .v (.bcall (.cons .v .nil)))))
  (.cons (.st (.bin .v (.bcall (.cons .v .nil))))
  .nil)) .nil)
  (.cons (.st .v)
  (.cons (.forr (.var rfl (.inl rfl)) (.rng1 rfl .v) (fun _ _=>rfl) (.cons (.st (.bin .v (.bin .int .int)))
  .nil))
  (.cons (.ite (.andN (.cmp .v .int) (.and2 (.cmp .v (.bin .int .int)) (.cmp .v .int))) (.cons (.ret (.bin (.bin .v (.bin .int .int)) .v))
  .nil) .nil)
  (.cons (.st (.bin (.bin (.bin (.bin (.bin .v .int) (.bin .v .int)) (.bin .v .int)) .int) .int))
  (.cons (.st (.bin (.bin (.bin .v .int) (.bin .v .int)) .int))
  (.cons (.st (.bin (.bin (.bin .v (.bin (.bin .v .int) .int)) .v) .int))
  (.cons (.ret (.bin (.bin (.bin (.bin (.bin .v .int) (.bin .v .int)) (.bin .v .int)) .int) .v))
  .nil))))))))))
abbrev s_law_same:Stmt:=top 10
theorem sc_law_same:FnScope ["_law_found","_law_due","_law_like"] ["_law_found","_law_due"] (defScope s_law_same):=⟨rfl,rfl,rfl,by decide +kernel,rfl,by decide +kernel,by decide +kernel⟩
theorem ck_law_same:CkSs ⟨["_law_found","_law_due","_law_like"],defScope s_law_same,names,glo⟩ b_law_same (defBody s_law_same):=
  (.cons (.ite (.isiN (by decide) rfl (.cons (by decide) rfl (.cons (by decide) rfl .nil)) (.var rfl (.inr (.inl rfl)) rfl rfl)) (.cons (.ite (.or2 (.not (.isiN (by decide) rfl (.cons (by decide) rfl (.cons (by decide) rfl .nil)) (.var rfl (.inr (.inl rfl)) rfl rfl))) (.cmp (.bcall (.cons (.var rfl (.inr (.inl rfl)) rfl rfl) .nil)) (.bcall (.cons (.var rfl (.inr (.inl rfl)) rfl rfl) .nil)))) (.cons (.ret .bl)
  .nil) .nil)
  (.cons (.st (.bcall (.cons (.gc (.comp (N:=["_law_k","_law_found","_law_due"]) (.rng1 rfl (.bcall (.cons (.var rfl (.inr (.inl rfl)) rfl rfl) .nil))) (.var rfl (.inl rfl)) (.gc (.call (.cons (.idx (.var rfl (.inr (.inl rfl)) rfl rfl) .v) (.cons (.idx (.var rfl (.inr (.inl rfl)) rfl rfl) .v) .nil)))))) .nil)))
  (.cons (.ret (.and2 .v (.cmp (.isi1 (.var rfl (.inr (.inl rfl)) rfl rfl)) (.isi1 (.var rfl (.inr (.inl rfl)) rfl rfl)))))
  .nil))) .nil)
  (.cons (.st (.cmp (.isi1 (.var rfl (.inr (.inl rfl)) rfl rfl)) (.isi1 (.var rfl (.inr (.inl rfl)) rfl rfl))))
  (.cons (.st (.and2 .v (.cmp (.isi1 (.var rfl (.inr (.inl rfl)) rfl rfl)) (.isi1 (.var rfl (.inr (.inl rfl)) rfl rfl)))))
  (.cons (.ret (.andN .v (.and2 (.cmp (.isi1 (.var rfl (.inr (.inl rfl)) rfl rfl)) (.isi1 (.var rfl (.inr (.inl rfl)) rfl rfl))) (.cmp (.var rfl (.inr (.inl rfl)) rfl rfl) (.var rfl (.inr (.inl rfl)) rfl rfl)))))
  .nil))))
abbrev s_law_rect:Stmt:=top 11
theorem sc_law_rect:FnScope ["_law_script","_law_k","_law_j","_law_wide","_law_tall","_law_x","_law_y"] ["_law_script","_law_k","_law_j","_law_wide","_law_tall"] (defScope s_law_rect):=⟨rfl,rfl,rfl,by decide +kernel,rfl,by decide +kernel,by decide +kernel⟩
theorem ck_law_rect:CkSs ⟨["_law_script","_law_k","_law_j","_law_wide","_law_tall","_law_x","_law_y"],defScope s_law_rect,names,glo⟩ b_law_rect (defBody s_law_rect):=
  (.cons (.st (.gc (.bcall (.cons (.gc (.lst (.cons (.call (.cons .v (.cons .v (.cons .v (.cons .v .nil))))) (.cons (.call (.cons .v (.cons .v (.cons (.bin .v .int) (.cons .v .nil))))) .nil)))) .nil))))
  (.cons (.st (.gc (.bcall (.cons (.gc (.lst (.cons (.call (.cons .v (.cons .v (.cons (.bin .v .int) (.cons .v .nil))))) (.cons (.call (.cons .v (.cons .v (.cons (.bin .v .int) (.cons .v .nil))))) .nil)))) .nil))))
  (.cons (.ret (.tup (.cons (.idx .v .int) (.cons (.idx .v .int) (.cons (.idx .v .int) (.cons (.idx .v .int) .nil))))))
  .nil)))
abbrev s_law:Stmt:=top 12
theorem sc_law:FnScope ["_law_script","_law_rect_here","_law_side","_law_line","_law_told","_law_near","_law_far"] ["_law_script"] (defScope s_law):=⟨rfl,rfl,rfl,by decide +kernel,rfl,by decide +kernel,by decide +kernel⟩
theorem ck_law:CkSs ⟨["_law_script","_law_rect_here","_law_side","_law_line","_law_told","_law_near","_law_far"],defScope s_law,names,glo⟩ b_law (defBody s_law):=
  (.cons (.st (.gc (.call (.cons .v (.cons .int (.cons .int (.cons .int (.cons .int .nil))))))))
  (.cons (.st (.gc (.call (.cons .v (.cons .int (.cons .int (.cons .int .nil)))))))
  (.cons (.st (.bin (.gc (.call (.cons .v (.cons .int (.cons .int (.cons .int .nil)))))) .int))
  (.cons (.ite (.cmp (.gc (.call (.cons .v (.cons .int (.cons .int (.cons .int .nil)))))) .int) (.cons (.st (.bin (.bin (.idx .v (.bin .v (.bin .int (.gc (.call (.cons .v (.cons .int (.cons .int (.cons .int .nil))))))))) (.gc (.call (.cons .v (.cons .int (.cons .int (.cons .int .nil))))))) .int))
  .nil) .nil)
  (.cons (.st (.gc (.call (.cons .v (.cons .v (.cons .v .nil))))))
  (.cons (.ite (.not (.cmp2 (.idx .v .v) .v (.idx .v (.bin .v .int)) (by with_unfolding_all rfl))) (.cons (.ret (.cmp .v .non))
  .nil) .nil)
  (.cons (.st (.bcall (.cons .v .nil)))
  (.cons (.st (.bcall (.cons .v .nil)))
  (.cons (.setIx .v (.bin .v .int) (.bin .v .int) (fun _=>rfl) (fun _=>rfl) (fun _=>rfl) (fun _ _=>rfl))
  (.cons (.setIx .v .v .v (fun _=>rfl) (fun _=>rfl) (fun _=>rfl) (fun _ _=>rfl))
  (.cons (.ite (.not (.gc (.call (.cons .v (.cons (.tup (.cons (.bcall (.cons .v .nil)) (.cons (.bcall (.cons .v .nil)) .nil))) .nil))))) (.cons (.ret .bl)
  .nil) .nil)
  (.cons (.ret (.cmp (.gc (.bcall (.cons (.bin (.gc (.call (.cons (.idx .v .int) .nil))) (.gc (.call (.cons (.idx .v .int) .nil)))) .nil))) (.gc (.bcall (.cons (.gc (.call (.cons .v .nil))) .nil)))))
  .nil))))))))))))
theorem ar1{P:List Value→Prop}(h:∀ a,P [a]):∀ us:List Value,us.length=1→P us|[a],_=>h a
theorem ar2{P:List Value→Prop}(h:∀ a b,P [a,b]):∀ us:List Value,us.length=2→P us|[a,b],_=>h a b
theorem ar3{P:List Value→Prop}(h:∀ a b c,P [a,b,c]):∀ us:List Value,us.length=3→P us|[a,b,c],_=>h a b c
theorem ar4{P:List Value→Prop}(h:∀ a b c d,P [a,b,c,d]):∀ us:List Value,us.length=4→P us|[a,b,c,d],_=>h a b c d
theorem ar5{P:List Value→Prop}(h:∀ a b c d e,P [a,b,c,d,e]):∀ us:List Value,us.length=5→P us|[a,b,c,d,e],_=>h a b c d e
theorem tb{P:Nat→Str→Prop}{n:Nat}{x:Str}{xs:List Str}(h:P n x)(t:∀ f y,xs[f]?=some y→P (n+1+f) y):∀ f y,(x::xs)[f]?=some y→P (n+f) y:=fun f y e=>by
 cases f with
 |zero=>cases e; exact h
 |succ f=>have:=t f y e; rwa [Nat.add_assoc,Nat.add_comm 1 f]at this
theorem tn{P:Nat→Str→Prop}{n:Nat}:∀ f y,([]:List Str)[f]?=some y→P (n+f) y:=fun f y e=>by cases e
theorem all_mk{l:PySem.W.OpenLaw}{w:World}{K:PySem.W.Frag}{h:Heap}{mg:Str→Option Value}{fa f0 f1 f2 f3 f4 f5 f6:Addr}{d0 d1 d2 d3 d4 d5 d6:FuncData}{gt0 gt1 gt2 gt3:Tok}
  (X:K.In h) (G:h.Ns mainGlobals mg) (hfa:mg "law" = some (.ref fa))
  (h0:FnK K "cells" s_cells f0 d0)
  (h1:FnK K "can_part" s_can_part f1 d1)
  (h2:FnK K "parted" s_parted f2 d2)
  (h3:FnK K "_law_draw" s_law_draw f3 d3)
  (h4:FnK K "_law_same" s_law_same f4 d4)
  (h5:FnK K "_law_rect" s_law_rect f5 d5)
  (h6:FnK K "law" s_law f6 d6)
  (gl0:PySem.W.nsIn K mainGlobals "LEFT" = some (some (.int 0 gt0)))
  (gl1:PySem.W.nsIn K mainGlobals "LOW" = some (some (.int 3 gt1)))
  (gl2:PySem.W.nsIn K mainGlobals "RIGHT" = some (some (.int 2 gt2)))
  (gl3:PySem.W.nsIn K mainGlobals "TOP" = some (some (.int 1 gt3)))
  (z:NoB K)
  : ∃ fd:FuncData,(∀ (s:Shared) (v:Value),BindsTo s fd ⟨[v],[]⟩ [("_law_script",v)])∧∀ base:Heap,K.In base→base.Ns mainGlobals mg→FnOk l.prog w K mg base CX0 20 fa fd ["_law_script"] (spLaw K):=by
 have Mg:Mo K mg glo w.params:=z.mo X G (fun x ks ds hm=>by
   (cases hm)
  ) (fun x d hm=>by
   simp only[glo,List.mem_cons,List.not_mem_nil,or_false,Prod.mk.injEq]at hm
   rcases hm with⟨rfl,rfl⟩|⟨rfl,rfl⟩|⟨rfl,rfl⟩|⟨rfl,rfl⟩
   ·exact⟨_,(.int 0),PySem.W.mg_of X G gl0,⟨_,rfl⟩,fun m H=>(mkInt _)⟩
   ·exact⟨_,(.int 3),PySem.W.mg_of X G gl1,⟨_,rfl⟩,fun m H=>(mkInt _)⟩
   ·exact⟨_,(.int 2),PySem.W.mg_of X G gl2,⟨_,rfl⟩,fun m H=>(mkInt _)⟩
   ·exact⟨_,(.int 1),PySem.W.mg_of X G gl3,⟨_,rfl⟩,fun m H=>(mkInt _)⟩
  )
 have T:∀ f x,names[f]?=some x→FText K mg fns names glo (0+f) x:=
  tb (h0.text X G f_cells sc_cells ck_cells rfl rfl rfl fun _ _ _ _ _ _=>ar1 fun _=>rfl) (
  tb (h1.text X G f_can_part sc_can_part ck_can_part rfl rfl rfl fun _ _ _ _ _ _=>ar3 fun _ _ _=>rfl) (
  tb (h2.text X G f_parted sc_parted ck_parted rfl rfl rfl fun _ _ _ _ _ _=>ar3 fun _ _ _=>rfl) (
  tb (h3.text X G f_law_draw sc_law_draw ck_law_draw rfl rfl rfl fun _ _ _ _ _ _=>ar4 fun _ _ _ _=>rfl) (
  tb (h4.text X G f_law_same sc_law_same ck_law_same rfl rfl rfl fun _ _ _ _ _ _=>ar2 fun _ _=>rfl) (
  tb (h5.text X G f_law_rect sc_law_rect ck_law_rect rfl rfl rfl fun _ _ _ _ _ _=>ar5 fun _ _ _ _ _=>rfl) (
  tb (h6.text X G f_law sc_law ck_law rfl rfl rfl fun _ _ _ _ _ _=>ar1 fun _=>rfl) (
  tn)))))))
 have T:∀ f x,names[f]?=some x→FText K mg fns names glo f x:=fun f x h=>Nat.zero_add f▸T f x h
 obtain⟨a,l,c,k⟩:=h6
 have e:=hfa.symm.trans (PySem.W.mg_of X G a)
 cases e
 have F:=fun_mk (st:=s_law) l c k
 refine⟨_,fun s v=>.of_eq rfl,fun base _ _=>(fun_ok (n:=19) (f:=6) (F:=f_law) (tab_ok T Mg _) Mg rfl F sc_law ck_law rfl rfl).imp (law_sp K02.law_ok)⟩
end K02
namespace K02
open PySem L2
noncomputable def c0:List Str:=["__name__","dipright.ground","LEFT","TOP","RIGHT","LOW","cells","rect","found","y","range","x"]
noncomputable def c1:List Str:=["append","can_part","side","line","parted","ahead","behind","law_dipright_k02_rectangles_parted","_law_draw","_law_script","_law_k","_law_j"]
noncomputable def c2:List Str:=["_law_many","_law_cell","_law_turn","len","_law_rest","_law_step","_law_one","_law_two","_law_same","_law_found","_law_due","isinstance"]
noncomputable def c3:List Str:=["tuple","list","_law_like","all",".0","int","bool","str","fast","_law_rect","_law_wide","_law_tall"]
noncomputable def c4:List Str:=["_law_x","sorted","_law_y","law","_law_rect_here","_law_side","_law_line","_law_told","_law_near","_law_far","/claim/cut.py","__doc__"]
noncomputable def c5:List Str:=["__package__","__loader__","__spec__","__annotations__","__builtins__","__file__","__cached__"]
noncomputable def Al:List (List Str):=[c0,c1,c2,c3,c4,c5]
noncomputable def Af(i j:Nat):Str:=(Al.getD i []).getD j ⟨#[]⟩
noncomputable def b0:String:="dict"
noncomputable def b1:String:="__main__.__loader__#opaque"
noncomputable def b2:String:="tuple"
noncomputable def b3:String:="code"
noncomputable def b4:String:="function"
lay_quick Af b0 b1 b2 b3 b4
noncomputable def G(a:Nat→Nat→Str):Program:=by
 refine'(?f:(x:Program)→(Str.ofString "__name__" = a 0 0→Str.ofString "dipright.ground" = a 0 1→Str.ofString "LEFT" = a 0 2→Str.ofString "TOP" = a 0 3→Str.ofString "RIGHT" = a 0 4→Str.ofString "LOW" = a 0 5→Str.ofString "cells" = a 0 6→Str.ofString "rect" = a 0 7→Str.ofString "found" = a 0 8→Str.ofString "y" = a 0 9→Str.ofString "range" = a 0 10→Str.ofString "x" = a 0 11→Str.ofString "append" = a 1 0→Str.ofString "can_part" = a 1 1→Str.ofString "side" = a 1 2→Str.ofString "line" = a 1 3→Str.ofString "parted" = a 1 4→Str.ofString "ahead" = a 1 5→Str.ofString "behind" = a 1 6→Str.ofString "law_dipright_k02_rectangles_parted" = a 1 7→Str.ofString "_law_draw" = a 1 8→Str.ofString "_law_script" = a 1 9→Str.ofString "_law_k" = a 1 10→Str.ofString "_law_j" = a 1 11→Str.ofString "_law_many" = a 2 0→Str.ofString "_law_cell" = a 2 1→Str.ofString "_law_turn" = a 2 2→Str.ofString "len" = a 2 3→Str.ofString "_law_rest" = a 2 4→Str.ofString "_law_step" = a 2 5→Str.ofString "_law_one" = a 2 6→Str.ofString "_law_two" = a 2 7→Str.ofString "_law_same" = a 2 8→Str.ofString "_law_found" = a 2 9→Str.ofString "_law_due" = a 2 10→Str.ofString "isinstance" = a 2 11→Str.ofString "tuple" = a 3 0→Str.ofString "list" = a 3 1→Str.ofString "_law_like" = a 3 2→Str.ofString "all" = a 3 3→Str.ofString ".0" = a 3 4→Str.ofString "int" = a 3 5→Str.ofString "bool" = a 3 6→Str.ofString "str" = a 3 7→Str.ofString "fast" = a 3 8→Str.ofString "_law_rect" = a 3 9→Str.ofString "_law_wide" = a 3 10→Str.ofString "_law_tall" = a 3 11→Str.ofString "_law_x" = a 4 0→Str.ofString "sorted" = a 4 1→Str.ofString "_law_y" = a 4 2→Str.ofString "law" = a 4 3→Str.ofString "_law_rect_here" = a 4 4→Str.ofString "_law_side" = a 4 5→Str.ofString "_law_line" = a 4 6→Str.ofString "_law_told" = a 4 7→Str.ofString "_law_near" = a 4 8→Str.ofString "_law_far" = a 4 9→Str.ofString "/claim/cut.py" = a 4 10→PySem.Challenge.pw_dipright_k02_rectangles_parted=x)→Program) _ ?h
 (case f=>exact fun x _=>x)
 (case h=>intros; delta PySem.Challenge.pw_dipright_k02_rectangles_parted; conv=>lhs; simp only[*])
noncomputable abbrev fnD(x y:Str)(s:Stmt):=FuncData.mk x y (defArgs s) (.stmts (defBody s)) (defScope s)
noncomputable abbrev fq(x:Str)(s:Stmt)(m r:Value):=fnD x x s 3 [] .none .none .none m Option.none r .none 0
noncomputable abbrev kh:=PyData.keyHash
noncomputable abbrev de(P:Params)(x:Str)(k:Nat)(v:Value):=DictEntry.mk (kh P x) (.str x k) v
noncomputable abbrev oq(u:String)(x:Array Value):=Obj.mk (.type u) Option.none (.seq x) #[]
noncomputable abbrev cq(u:String)(f x:Str)(k l m:Nat)(i j:Int)(r:Nat)(o:Int)(s:Nat)(v w z:Value)(p:Int)(q:Nat):=Obj.mk (.type u) Option.none (.fields #[.str x k,.str x l,.str f m,.int i 0,.int j 0,.int 0 0,.int 0 0,.int 3 0,.ref r,.bool Bool.true,.int o 0,.ref s,.none,v,w,z,.int p 0,.int i 0,.str f q]) #[]
noncomputable def KG(tp:Nat→Stmt)(a:Nat→Nat→Str)(u0 u1 u2 u3 u4:String)(P:Params):PySem.W.Frag:=(nat_lit 2,Obj.mk .none Option.none (.dict #[]) #[]) ::
(nat_lit 3,Obj.mk (.type u0) Option.none (.dict #[de P (a 0 0) 165 (.str (a 1 7) 227),de P (a 4 11) 166 .none,de P (a 5 0) 167 .none,de P (a 5 1) 168 (.builtin u1),de P (a 5 2) 169 .none,de P (a 5 3) 170 (.ref 6),de P (a 5 4) 171 (.ref 4),de P (a 5 5) 173 (.str (a 4 10) 172),de P (a 5 6) 174 .none,de P (a 0 2) 190 (.int 0 189),de P (a 0 3) 192 (.int 1 191),de P (a 0 4) 194 (.int 2 193),de P (a 0 5) 196 (.int 3 195),de P (a 0 6) 206 (.ref 21),de P (a 1 1) 215 (.ref 28),de P (a 1 4) 226 (.ref 35),de P (a 1 8) 244 (.ref 42),de P (a 2 8) 250 (.ref 47),de P (a 3 9) 263 (.ref 54),de P (a 4 3) 276 (.ref 61)] 20) #[]) ::
(nat_lit 6,Obj.mk (.type u0) Option.none (.dict #[]) #[]) ::
(nat_lit 15,oq u2 #[]) ::
(nat_lit 17,oq u2 #[.str (a 0 7) 200,.str (a 0 8) 201,.str (a 0 9) 202,.str (a 0 11) 203]) ::
(nat_lit 18,oq u2 #[]) ::
(nat_lit 20,cq u3 (a 4 10) (a 0 6) 197 198 199 6 1 15 181 16 (.ref 17) (.ref 18) (.ref 19) 204 205) ::
(nat_lit 21,Obj.mk (.type u4) Option.none (.func (fq (a 0 6) (tp 5) (.str (a 0 1) 187) (.ref 20))) #[]) ::
(nat_lit 22,oq u2 #[]) ::
(nat_lit 24,oq u2 #[.str (a 0 7) 210,.str (a 1 2) 211,.str (a 1 3) 212]) ::
(nat_lit 25,oq u2 #[]) ::
(nat_lit 27,cq u3 (a 4 10) (a 1 1) 207 208 209 12 3 22 181 23 (.ref 24) (.ref 25) (.ref 26) 213 214) ::
(nat_lit 28,Obj.mk (.type u4) Option.none (.func (fq (a 1 1) (tp 6) (.str (a 0 1) 187) (.ref 27))) #[]) ::
(nat_lit 29,oq u2 #[]) ::
(nat_lit 31,oq u2 #[.str (a 0 7) 219,.str (a 1 2) 220,.str (a 1 3) 221,.str (a 1 5) 222,.str (a 1 6) 223]) ::
(nat_lit 32,oq u2 #[]) ::
(nat_lit 34,cq u3 (a 4 10) (a 1 4) 216 217 218 14 3 29 181 30 (.ref 31) (.ref 32) (.ref 33) 224 225) ::
(nat_lit 35,Obj.mk (.type u4) Option.none (.func (fq (a 1 4) (tp 7) (.str (a 0 1) 187) (.ref 34))) #[]) ::
(nat_lit 36,oq u2 #[]) ::
(nat_lit 38,oq u2 #[.str (a 1 9) 232,.str (a 1 10) 233,.str (a 1 11) 234,.str (a 2 0) 235,.str (a 2 1) 236,.str (a 2 2) 237,.str (a 2 4) 238,.str (a 2 5) 239,.str (a 2 6) 240,.str (a 2 7) 241]) ::
(nat_lit 39,oq u2 #[]) ::
(nat_lit 41,cq u3 (a 4 10) (a 1 8) 229 230 231 25 4 36 181 37 (.ref 38) (.ref 39) (.ref 40) 242 243) ::
(nat_lit 42,Obj.mk (.type u4) Option.none (.func (fq (a 1 8) (tp 9) (.str (a 1 7) 227) (.ref 41))) #[]) ::
(nat_lit 43,oq u2 #[]) ::
(nat_lit 46,cq u3 (a 4 10) (a 2 8) 245 246 247 40 2 43 181 44 (.none) (.none) (.ref 45) 248 249) ::
(nat_lit 47,Obj.mk (.type u4) Option.none (.func (fq (a 2 8) (tp 10) (.str (a 1 7) 227) (.ref 46))) #[]) ::
(nat_lit 48,oq u2 #[]) ::
(nat_lit 50,oq u2 #[.str (a 1 9) 254,.str (a 1 10) 255,.str (a 1 11) 256,.str (a 3 10) 257,.str (a 3 11) 258,.str (a 4 0) 259,.str (a 4 2) 260]) ::
(nat_lit 51,oq u2 #[]) ::
(nat_lit 53,cq u3 (a 4 10) (a 3 9) 251 252 253 49 5 48 181 49 (.ref 50) (.ref 51) (.ref 52) 261 262) ::
(nat_lit 54,Obj.mk (.type u4) Option.none (.func (fq (a 3 9) (tp 11) (.str (a 1 7) 227) (.ref 53))) #[]) ::
(nat_lit 55,oq u2 #[]) ::
(nat_lit 57,oq u2 #[.str (a 1 9) 267,.str (a 4 4) 268,.str (a 4 5) 269,.str (a 4 6) 270,.str (a 4 7) 271,.str (a 4 8) 272,.str (a 4 9) 273]) ::
(nat_lit 58,oq u2 #[]) ::
(nat_lit 60,cq u3 (a 4 10) (a 4 3) 264 265 266 53 1 55 181 56 (.ref 57) (.ref 58) (.ref 59) 274 275) ::
(nat_lit 61,Obj.mk (.type u4) Option.none (.func (fq (a 4 3) (tp 12) (.str (a 1 7) 227) (.ref 60))) #[])::[]
noncomputable def KF:Params→PySem.W.Frag:=KG top Af b0 b1 b2 b3 b4
noncomputable def KH(P:Params):PySem.W.Frag:=by refine'(?f:(x:PySem.W.Frag)→KF P=x→PySem.W.Frag) _ ?h; (case f=>exact fun x _=>x); (case h=>conv=>lhs; whnf)
def S0:Stmt:=top 0
def S1:Stmt:=top 1
def S2:Stmt:=top 2
def S3:Stmt:=top 3
def S4:Stmt:=top 4
def S5:Stmt:=top 5
def S6:Stmt:=top 6
def S7:Stmt:=top 7
def S8:Stmt:=top 8
def S9:Stmt:=top 9
def S10:Stmt:=top 10
def S11:Stmt:=top 11
def S12:Stmt:=top 12
def pw:Program:={ PySem.Challenge.pw_dipright_k02_rectangles_parted with main:={ PySem.Challenge.pw_dipright_k02_rectangles_parted.main with body:=[S0,S1,S2,S3,S4,S5,S6,S7,S8,S9,S10,S11,S12] } }
def rw:PySem.W.OpenLaw:={ PySem.Challenge.rw_dipright_k02_rectangles_parted with prog:=pw }
theorem rwE:rw=PySem.Challenge.rw_dipright_k02_rectangles_parted:=by kernel_rfl
end K02
namespace PySem.W.Fast
open PySem K02
noncomputable def tw9778920869113083507:Program:=G tw3194144579982486408
theorem te9778920869113083507:PySem.Challenge.pw_dipright_k02_rectangles_parted=tw9778920869113083507:=Eq.trans (b:=G Af) (by kernel_rfl) (congrArg G te3194144579982486408)
noncomputable def tw14215937179394898615(i:Nat):Stmt:=tw9778920869113083507.main.body.getD i (.Pass ⟨0,0,0,0⟩)
theorem te14215937179394898615:top=tw14215937179394898615:=funext fun i=>congrArg (fun p:Program=>p.main.body.getD i (.Pass ⟨0,0,0,0⟩)) te9778920869113083507
noncomputable def tw3716248859255199856:Params→Frag:=KG tw14215937179394898615 tw3194144579982486408 tw17359742128205001700 tw567469349217510671 tw16702114767500144252 tw15017915734743587224 tw1938531998279325590
theorem te3716248859255199856:KF=tw3716248859255199856:=congr (congr (congr (congr (congr (congr (congrArg KG te14215937179394898615) te3194144579982486408) te17359742128205001700) te567469349217510671) te16702114767500144252) te15017915734743587224) te1938531998279325590
end PySem.W.Fast
open PySem PySem.W PyProof.Rows
set_option maxRecDepth 100000 in
set_option maxHeartbeats 0 in
theorem PySem.Challenge.cw_dipright_k02_rectangles_parted_holds : PySem.Challenge.rw_dipright_k02_rectangles_parted.Holds := by
 refine(congrArg PySem.W.OpenLaw.Holds K02.rwE).mp ?_
 w_on; o_law; o_head (kHook K02.KF [2,3,6,15,17,18,20,21,22,24,25,27,28,29,31,32,34,35,36,38,39,41,42,43,46,47,48,50,51,53,54,55,57,58,60,61] (fun _=>by kernel_rfl)); (case hw=>w_witness2)
 refine MS.walk_law (l:=K02.rw) (K:=K02.KH) (k:=20) (x:="_law_script") rfl rfl ⟨rfl,by decide,by decide⟩ (fun w h Y=>PySem.W.kIn_of Y) ?F
 case F=>
  intro w mg fa h KX G hmg
  k_fill
  refine' K02.all_mk KX G hmg (.mk ?a0 ?l0 ?c0 ?k0) (.mk ?a1 ?l1 ?c1 ?k1) (.mk ?a2 ?l2 ?c2 ?k2) (.mk ?a3 ?l3 ?c3 ?k3) (.mk ?a4 ?l4 ?c4 ?k4) (.mk ?a5 ?l5 ?c5 ?k5) (.mk ?a6 ?l6 ?c6 ?k6) ?gl0 ?gl1 ?gl2 ?gl3 (.mk ?z0 ?z1 ?z2 ?z3 ?z4 ?z5 ?z6 ?z7 ?z8 ?z9 ?z10 ?z11 ?z12 ?z13 ?z14 ?z15 ?z16 ?z17 ?z18)
  (case a0=>k_is)
  (case l0=>k_is)
  (case c0=>k_is)
  (case k0=>k_is)
  (case a1=>k_is)
  (case l1=>k_is)
  (case c1=>k_is)
  (case k1=>k_is)
  (case a2=>k_is)
  (case l2=>k_is)
  (case c2=>k_is)
  (case k2=>k_is)
  (case a3=>k_is)
  (case l3=>k_is)
  (case c3=>k_is)
  (case k3=>k_is)
  (case a4=>k_is)
  (case l4=>k_is)
  (case c4=>k_is)
  (case k4=>k_is)
  (case a5=>k_is)
  (case l5=>k_is)
  (case c5=>k_is)
  (case k5=>k_is)
  (case a6=>k_is)
  (case l6=>k_is)
  (case c6=>k_is)
  (case k6=>k_is)
  (case gl0=>k_is)
  (case gl1=>k_is)
  (case gl2=>k_is)
  (case gl3=>k_is)
  (case z0=>k_is)
  (case z1=>k_is)
  (case z2=>k_is)
  (case z3=>k_is)
  (case z4=>k_is)
  (case z5=>k_is)
  (case z6=>k_is)
  (case z7=>k_is)
  (case z8=>k_is)
  (case z9=>k_is)
  (case z10=>k_is)
  (case z11=>k_is)
  (case z12=>k_is)
  (case z13=>k_is)
  (case z14=>k_is)
  (case z15=>k_is)
  (case z16=>k_is)
  (case z17=>k_is)
  (case z18=>k_is)
