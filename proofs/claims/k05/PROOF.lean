import PyProof.Rows.All
import Wide.All
import OpenK.AllK
import Wide.FinOn
import Lean
import PyProof.EqAt
import PyProof.EqKinds
import PyProof.TupleCall
import PyProof.NeKinds
import PyProof.ZipIter
import PyProof.StrLoop
import PyProof.StrWalks
import PyProof.StrCalls
import PyProof.StrCalls2
import PyProof.StrLawsIn
import PyProof.SliceStr2
import PyProof.StrBlock
import PyProof.Rows.StrFirst
import KE.KIntText
import PyProof.StrLawsChain
import PyProof.StrLawsTight
import PyProof.CallStr
import PyProof.Rows.FStr
import PySem.SetTable
import PyProof.TupleKey
import PyProof.SetKind
import PyProof.IsRules
import PyProof.Rows.SetFrom
import PyProof.WalksMore
import PyProof.TupleIter
import PySem.Challenge.RW_dipright_k05_facts_by_their_shape
set_option backward.eqns.nonrecursive false
set_option Elab.async false
set_option linter.all false
set_option maxRecDepth 100000
set_option maxHeartbeats 4000000
section
namespace L2
open PySem PySem.Spec PyProof.Rows
abbrev Key:=Sum Int Str
noncomputable def keyIs:Key→Value→Bool
 |.inl k,v=>Value.isInt k v
 |.inr x,v=>Value.isStrOf x v
noncomputable def keyH(w:World):Key→Int
 |.inl k=>hashInt k
 |.inr x=>hashStr w x
theorem keyIs_shape:∀ {k:Key}{v:Value},keyIs k v=true→(∃ i t,k=Sum.inl i∧v=Value.int i t)∨(∃ x t,k=Sum.inr x∧v=Value.str x t)
 |.inl i,v,h=>by
  obtain⟨t,e⟩:=Value.isInt_shape (k:=i) (v:=v) h
  exact .inl ⟨i,t,rfl,e⟩
 |.inr x,v,h=>by
  obtain⟨t,e⟩:=Value.isStrOf_shape (x:=x) (v:=v) h
  exact .inr ⟨x,t,rfl,e⟩
theorem keyIs_int(i:Int)(t:Tok):keyIs (.inl i) (.int i t)=true:=by simp[keyIs,Value.isInt]
theorem keyIs_str(x:Str)(t:Tok):keyIs (.inr x) (.str x t)=true:=by simp[keyIs,Value.isStrOf]
theorem key_ll(a b:Int):decide ((Sum.inl a:Key)=Sum.inl b)=(a==b):=by
 by_cases e:a=b
 ·subst e; simp
 ·have h:¬ (Sum.inl a:Key)=Sum.inl b:=fun q=>e (Sum.inl.inj q)
  rw[decide_eq_false h]
  exact(beq_eq_false_iff_ne.mpr e).symm
theorem key_rr(a b:Str):decide ((Sum.inr a:Key)=Sum.inr b)=decide (a=b):=by
 by_cases e:a=b
 ·subst e; simp
 ·have h:¬ (Sum.inr a:Key)=Sum.inr b:=fun q=>e (Sum.inr.inj q)
  rw[decide_eq_false h,decide_eq_false e]
theorem key_lr(a:Int)(b:Str):decide ((Sum.inl a:Key)=Sum.inr b)=false:=decide_eq_false (fun q=>nomatch q)
theorem key_rl(a:Str)(b:Int):decide ((Sum.inr a:Key)=Sum.inl b)=false:=decide_eq_false (fun q=>nomatch q)
noncomputable def mixKind(prog:Program)(w:World):PySem.KeyKind prog w Key where
 is:=keyIs
 hash:=keyH w
 inj:=fun v a b ha hb=>by
  rcases keyIs_shape ha with⟨i,t,rfl,rfl⟩|⟨x,t,rfl,rfl⟩
  ·rcases keyIs_shape hb with⟨j,u,rfl,e⟩|⟨y,u,rfl,e⟩
   ·injection e with e1 _; rw[e1]
   ·exact nomatch e
  ·rcases keyIs_shape hb with⟨j,u,rfl,e⟩|⟨y,u,rfl,e⟩
   ·exact nomatch e
   ·injection e with e1 _; rw[e1]
 byValue:=fun k v h=>by
  rcases keyIs_shape h with⟨i,t,rfl,rfl⟩|⟨x,t,rfl,rfl⟩<;>rfl
 pyHash:=fun hv h=>by
  rcases keyIs_shape hv with⟨i,t,rfl,rfl⟩|⟨x,t,rfl,rfl⟩
  ·exact wpAny_pyHash_int h
  ·exact wpAny_pyHash_str h
 eqBool:=fun hu hv h=>by
  rcases keyIs_shape hu with⟨i,t,rfl,rfl⟩|⟨x,t,rfl,rfl⟩
  ·rcases keyIs_shape hv with⟨j,u,rfl,rfl⟩|⟨y,u,rfl,rfl⟩
   ·rw[key_ll]at h; exact wpAny_eqBool_int h
   ·rw[key_lr]at h; exact SeqAt.EqAt.int_str i t y u _ _ _ _ h
  ·rcases keyIs_shape hv with⟨j,u,rfl,rfl⟩|⟨y,u,rfl,rfl⟩
   ·rw[key_rl]at h; exact SeqAt.EqAt.str_int x t j u _ _ _ _ h
   ·rw[key_rr]at h; exact wpAny_eqBool_str h
 «strs»:=fun k x t v h=>by
  rcases keyIs_shape h with⟨i,u,rfl,e⟩|⟨y,u,rfl,e⟩
  ·exact nomatch e
  ·injection e with e1 _
   subst e1
   cases v<;>rfl
theorem mixKind_int(prog:Program)(w:World)(i:Int)(t:Tok):(mixKind prog w).is (.inl i) (.int i t)=true:=keyIs_int i t
theorem mixKind_str(prog:Program)(w:World)(x:Str)(t:Tok):(mixKind prog w).is (.inr x) (.str x t)=true:=keyIs_str x t
end L2
namespace L2
open PySem PySem.Spec PyProof.Rows
inductive V where
 |non|bl (b:Bool)|int (i:Int)|str (x:Str)|byt (b:Array UInt8)|flt (b:UInt64)|ref (a:Addr)|ty (n:String)
 deriving DecidableEq
noncomputable def RelV:V→Value→Prop
 |.non,u=>u=Value.none
 |.bl b,u=>u=Value.bool b
 |.int i,u=>∃ t,u=Value.int i t
 |.str x,u=>∃ t,u=Value.str x t
 |.byt b,u=>∃ t,u=Value.bytes b t
 |.flt b,u=>∃ t,u=Value.float b t
 |.ref a,u=>u=Value.ref a
 |.ty n,u=>u=Value.type n
abbrev Vals:List V→List Value→Prop:=Paired RelV
theorem Vals.length{xs:List V}{us:List Value}(r:Vals xs us):xs.length=us.length:=Paired.length r
theorem Vals.get:∀ {xs:List V}{us:List Value}{i:Nat}{x:V},Vals xs us→xs[i]?=some x→∃ u,us[i]?=some u∧RelV x u
 |_,_,_,_,.nil,e=>by simp at e
 |_,_,0,_,.cons r _,e=>by simp at e; subst e; exact⟨_,rfl,r⟩
 |_,_,i+1,x,.cons _ t,e=>by
  obtain⟨u,h1,h2⟩:=Vals.get (i:=i) (x:=x) t (by simpa using e)
  exact⟨u,by simpa using h1,h2⟩
theorem Vals.set{x:V}{u:Value}(r:RelV x u):∀ {xs:List V}{us:List Value}(i:Nat),Vals xs us→Vals (xs.set i x) (us.set i u)
 |_,_,_,.nil=>.nil
 |_,_,0,.cons _ t=>.cons r t
 |_,_,i+1,.cons q t=>.cons q (Vals.set r i t)
theorem Vals.append:∀ {xs ys:List V}{us ws:List Value},Vals xs us→Vals ys ws→Vals (xs++ys) (us++ws)
 |_,_,_,_,.nil,s=>s
 |_,_,_,_,.cons r t,s=>.cons r (Vals.append t s)
theorem Vals.take:∀ {xs:List V}{us:List Value}(n:Nat),Vals xs us→Vals (xs.take n) (us.take n)
 |_,_,0,_=>.nil
 |_,_,_+1,.nil=>.nil
 |_,_,n+1,.cons r t=>.cons r (Vals.take n t)
theorem Vals.drop:∀ {xs:List V}{us:List Value}(n:Nat),Vals xs us→Vals (xs.drop n) (us.drop n)
 |_,_,0,r=>r
 |_,_,_+1,.nil=>.nil
 |_,_,n+1,.cons _ t=>Vals.drop n t
noncomputable def RelO:Option V→Option Value→Prop
 |some v,some u=>RelV v u
 |none,none=>True
 |_,_=>False
def KV{κ:Type}:List (κ×V)→List (κ×Value)→Prop:=Paired fun(p:κ×V) (q:κ×Value)=>p.1=q.1∧RelV p.2 q.2
noncomputable def kV:Key→V
 |.inl i=>.int i
 |.inr x=>.str x
inductive HO where
 /-- a list -/
 |lst (xs:List V)
 /-- a tuple (never changes) -/
 |tup (xs:List V)
 /-- a dict whose keys are ints and texts; one whose keys are tuples of ints and texts (the empty one is both) -/
 |dK (kvs:List (Key×V))|dT (kvs:List (List Key×V))
 /-- a set of ints: its members,its size -/
 |set (S:Int→Bool) (n:Nat)
 /-- an instance of the class at C,its dict at dx,its attributes -/
 |ins (C dx:Addr) (fs:List (Str×V))
 /-- the dict of the instance at x -/
 |own (x:Addr)
 /-- the dict of an exception -/
 |xd (fs:List (Str×V))
 /-- a bound method,f of x -/
 |met (f x:Addr)
 /-- a range object lo,lo+1,.. below hi -/
 |rng (lo hi:Int)
 /-- a thing that is known to the object (the script; a dict while a loop walks it): read,never written while it is so -/
 |frz (o:Obj) (u:HO)
 /-- a code object's table -/
 |tbl (ps:Array Value)
 /-- any other thing,by what is true of its one object (a def of one's own: SetO a S n:=HO.ext fun h=>..) -/
 |ext (φ:Heap→Prop)
abbrev Hp:=Addr→Option HO
noncomputable def upd(H:Hp)(a:Addr)(o:HO):Hp:=fun b=>if b=a then some o else H b
theorem upd_same{H:Hp}{a:Addr}{o:HO}:upd H a o a=some o:=by unfold upd; rw[if_pos rfl]
theorem upd_ne{H:Hp}{a b:Addr}{o:HO}(h:b≠a):upd H a o b=H b:=by unfold upd; rw[if_neg h]
theorem ne_of{H:Hp}{a b:Addr}{o u:HO}(h:H a=some o)(h':H b=some u)(d:o≠u):a≠b:=by
 intro e; subst e; rw[h]at h'; exact d (Option.some.inj h')
theorem ne_of_none{H:Hp}{a b:Addr}{o:HO}(h:H a=some o)(h':H b=none):a≠b:=by
 intro e; subst e; rw[h]at h'; cases h'
section
variable (P:Program)(w:World)
noncomputable def ObjOk(H:Hp)(h:Heap)(a:Addr):HO→Prop
 |.lst xs=>xs.length≤sizeLine∧∃ (its:List Value) (n:Nat),Vals xs its∧h.get? a=some { cls:=.type "list",data:=.seq its.toArray n }
 |.tup xs=>xs.length≤sizeLine∧∃ its:List Value,Vals xs its∧IsTup h a its.toArray
 |.dK kvs=>kvs.length≤sizeLine∧(a==sysModules)=false∧∃ vs,KV kvs vs∧h.DictOf (mixKind P w) a vs
 |.dT kvs=>kvs.length≤sizeLine∧(a==sysModules)=false∧∃ xs:List (List Key×Addr×Value),
   Paired (fun(p:List Key×V) (q:List Key×Addr×Value)=>p.1=q.1∧H q.2.1=some (.tup (p.1.map kV))∧RelV p.2 q.2.2) kvs xs∧
   ∃ o es ep,h.get? a=some o∧o.ExactDict∧o.data=.dict es ep∧es.toList=xs.map (entryOfKey (tupleKind (mixKind P w)))∧(xs.map (·.1)).Nodup
 |.set S n=>h.SetOf (intKind P w) a S n
 |.ins C dx fs=>H dx=some (.own a)∧fs.length≤1000∧dx≠a∧h.get? a=some (PySem.W.instObj C dx)∧
   ∃ mA,h.Ns1 dx mA∧(∀ f,RelO (fs.lookup f) (mA f))∧PySem.Within mA (fs.map (·.1))
 |.own _=>∃ o,h.get? a=some o
 |.xd fs=>∃ mA,h.Ns1 a mA∧∀ f,RelO (fs.lookup f) (mA f)
 |.rng lo hi=>∃ t u v,h.get? a=some { cls:=.type "range",data:=.fields #[.int lo t,.int hi u,.int 1 v] }
 |.frz o u=>h.get? a=some o∧ObjOk H h a u
 |.tbl ps=>h.get? a=some { cls:=.none,data:=.fields ps }
 |.met f x=>h.get? a=some (PySem.W.methodObj (.ref f) (.ref x))
 |.ext φ=>φ h∧(∃ o,h.get? a=some o)∧∀ h1 h2:Heap,φ h1→(∀ o,h1.get? a=some o→h2.get? a=some o)→φ h2
def HOk(H:Hp)(h:Heap):Prop:=∀ a o,H a=some o→ObjOk P w H h a o
end
section
variable {P:Program}{w:World}{H H':Hp}{h h':Heap}{a:Addr}{o:HO}
theorem ObjOk.lt(x:ObjOk P w H h a o):a<h.objs.size:=by
 cases o with
 |lst xs=>obtain⟨_,_,_,_,e⟩:=x; exact Heap.lt_size e
 |tup xs=>obtain⟨_,_,_,p⟩:=x; exact p.lt
 |dK kvs=>obtain⟨_,_,_,_,o,_,_,e,_⟩:=x; exact Heap.lt_size e
 |dT kvs=>obtain⟨_,_,_,_,o,_,_,e,_⟩:=x; exact Heap.lt_size e
 |set S n=>obtain⟨o,_,_,_,e,_⟩:=x; exact Heap.lt_size e
 |ins C dx fs=>obtain⟨_,_,_,e,_⟩:=x; exact Heap.lt_size e
 |own y=>obtain⟨_,e⟩:=x; exact Heap.lt_size e
 |xd fs=>obtain⟨_,⟨_,_,_,e,_⟩,_⟩:=x; exact Heap.lt_size e
 |rng lo hi=>obtain⟨_,_,_,e⟩:=x; exact Heap.lt_size e
 |frz ob u=>obtain⟨e,_⟩:=x; exact Heap.lt_size e
 |tbl ps=>exact Heap.lt_size (show h.get? a=some _ from x)
 |met f y=>exact Heap.lt_size (show h.get? a=some _ from x)
 |ext φ=>obtain⟨_,⟨_,e⟩,_⟩:=x; exact Heap.lt_size e
theorem Paired.mapP{α β:Type}{F G:α→β→Prop}:∀ {l₁:List α}{l₂:List β},Paired F l₁ l₂→(∀ a b,F a b→G a b)→Paired G l₁ l₂
 |_,_,.nil,_=>.nil
 |_,_,.cons r t,f=>.cons (f _ _ r) (Paired.mapP t f)
theorem ObjOk.stay(x:ObjOk P w H h a o)(k:∀ b u,(b=a∨H b=some (.own a))→h.get? b=some u→h'.get? b=some u)
  (ho:∀ b,H b=some (.own a)→H' b=some (.own a)) (ht:∀ b xs,H b=some (.tup xs)→H' b=some (.tup xs)):ObjOk P w H' h' a o:=by
 induction o with
 |lst xs=>obtain⟨z,its,n,r,e⟩:=x; exact⟨z,its,n,r,k _ _ (.inl rfl) e⟩
 |tup xs=>obtain⟨z,its,r,ob,e,c⟩:=x; exact⟨z,its,r,ob,k _ _ (.inl rfl) e,c⟩
 |dK kvs=>obtain⟨z,y,vs,r,ob,es,ep,e,c⟩:=x; exact⟨z,y,vs,r,ob,es,ep,k _ _ (.inl rfl) e,c⟩
 |dT kvs=>
  obtain⟨z,y,xs,r,ob,es,ep,e,c⟩:=x
  exact⟨z,y,xs,Paired.mapP r fun p q z=>⟨z.1,ht _ _ z.2.1,z.2.2⟩,ob,es,ep,k _ _ (.inl rfl) e,c⟩
 |set S n=>obtain⟨ob,es,ep,t,e,c⟩:=x; exact⟨ob,es,ep,t,k _ _ (.inl rfl) e,c⟩
 |ins C dx fs=>
  obtain⟨d,z,ne,e,mA,⟨od,es,ep,e2,c⟩,r⟩:=x
  exact⟨ho _ d,z,ne,k _ _ (.inl rfl) e,mA,⟨od,es,ep,k _ _ (.inr d) e2,c⟩,r⟩
 |own y=>obtain⟨ob,e⟩:=x; exact⟨ob,k _ _ (.inl rfl) e⟩
 |xd fs=>obtain⟨mA,⟨od,es,ep,e,c⟩,r⟩:=x; exact⟨mA,⟨od,es,ep,k _ _ (.inl rfl) e,c⟩,r⟩
 |rng lo hi=>obtain⟨t,u,v,e⟩:=x; exact⟨t,u,v,k _ _ (.inl rfl) e⟩
 |frz ob u ih=>obtain⟨e,q⟩:=x; exact⟨k _ _ (.inl rfl) e,ih q⟩
 |tbl ps=>
  have e:h.get? a=some { cls:=.none,data:=.fields ps }:=x
  show h'.get? a=some { cls:=.none,data:=.fields ps }
  exact k a _ (.inl rfl) e
 |met f y=>
  have e:h.get? a=some (PySem.W.methodObj (.ref f) (.ref y)):=x
  show h'.get? a=some (PySem.W.methodObj (.ref f) (.ref y))
  exact k a _ (.inl rfl) e
 |ext φ=>obtain⟨p,⟨o,e⟩,st⟩:=x; exact⟨st _ _ p fun o q=>k _ _ (.inl rfl) q,⟨o,k _ _ (.inl rfl) e⟩,st⟩
theorem HOk.lt(x:HOk P w H h)(e:H a=some o):a<h.objs.size:=(x a o e).lt
theorem HOk.fresh(x:HOk P w H h)(e:h.objs.size≤a):H a=none:=by
 cases q:H a with
 |none=>rfl
 |some u=>exact absurd (Nat.lt_of_lt_of_le (x.lt q) e) (Nat.lt_irrefl _)
theorem HOk.kept(x:HOk P w H h)(k:∀ b u,h.get? b=some u→h'.get? b=some u):HOk P w H h':=fun a o e=>
 (x a o e).stay (fun b u _ q=>k b u q) (fun _ q=>q) fun _ _ q=>q
theorem HOk.laid(x:HOk P w H h)(k:∀ b u,h.get? b=some u→h'.get? b=some u)(hp:h.objs.size≤a)(new:ObjOk P w (upd H a o) h' a o):HOk P w (upd H a o) h':=fun b u e=>by
 have hn:=x.fresh hp
 by_cases hb:b=a
 ·subst hb; rw[upd_same]at e; cases e; exact new
 ·rw[upd_ne hb]at e
  exact(x b u e).stay (fun c v _ q=>k c v q) (fun c q=>by rw[upd_ne (ne_of_none q hn)]; exact q) fun c xs q=>by rw[upd_ne (ne_of_none q hn)]; exact q
end
def Rd(H:Hp)(a:Addr)(u:HO):Prop:=H a=some u∨∃ o,H a=some (.frz o u)
theorem Rd.of{H:Hp}{a:Addr}{u:HO}(h:H a=some u):Rd H a u:=.inl h
theorem Rd.ok{P:Program}{w:World}{H:Hp}{h:Heap}{a:Addr}{u:HO}(r:Rd H a u)(x:HOk P w H h):ObjOk P w H h a u:=by
 rcases r with r|⟨o,r⟩
 ·exact x a u r
 ·obtain⟨_,q⟩:=x a _ r
  exact q
noncomputable def Mut:Option HO→Prop
 |some (.lst _)=>True
 |some (.dK _)=>True
 |some (.dT _)=>True
 |some (.set _ _)=>True
 |some (.ins _ _ _)=>True
 |some (.ext _)=>True
 |_=>False
section
variable {P:Program}{w:World}{H:Hp}{h h':Heap}{x e:Addr}{o':HO}
theorem HOk.write(ok:HOk P w H h)(mu:Mut (H x))(he:e=x∨H e=some (.own x))(k:∀ b u,b≠e→h.get? b=some u→h'.get? b=some u)(heo:∃ u,h'.get? e=some u)
  (new:ObjOk P w (upd H x o') h' x o'):HOk P w (upd H x o') h':=fun b u q=>by
 have nown:∀ c y,H c=some (.own y)→c≠x:=fun c y r z=>by subst z; rw[r]at mu; exact mu
 have ntup:∀ c xs,H c=some (.tup xs)→c≠x:=fun c xs r z=>by subst z; rw[r]at mu; exact mu
 by_cases hb:b=x
 ·subst hb; rw[upd_same]at q; cases q; exact new
 ·rw[upd_ne hb]at q
  by_cases hbe:b=e
  ·have q':H b=some (.own x):=by
    rcases he with z|z
    ·exact absurd (hbe.trans z) hb
    ·rw[hbe]; exact z
   rw[q]at q'; cases q'
   obtain⟨v,hv⟩:=heo
   exact⟨v,by rw[hbe]; exact hv⟩
  ·refine(ok b u q).stay (fun c v hc r=>k c v ?_ r) (fun c r=>by rw[upd_ne (nown c b r)]; exact r) fun c xs r=>by rw[upd_ne (ntup c xs r)]; exact r
   rcases hc with rfl|hc
   ·exact hbe
   ·rintro rfl
    rcases he with z|z
    ·exact nown c b hc z
    ·rw[hc]at z; cases z; exact hb rfl
end
structure Un (fs ex:List Addr) (H H':Hp) (h h':Heap):Prop where
 keep:∀ b o,h.get? b=some o→H b=none→b ∉ fs→b ∉ ex→h'.get? b=some o
 slot:∀ b o,h.get? b=some o→H b=none→b∈fs→b ∉ ex→∃ sl,h'.get? b=some { o with slots:=sl }
 free:∀ b o,h.get? b=some o→H b=none→b ∉ ex→H' b=none
 there:∀ b o,h.get? b=some o→b ∉ ex→∃ o',h'.get? b=some o'
 tups:∀ b xs,H b=some (.tup xs)→H' b=some (.tup xs)
 frzs:∀ b o u,H b=some (.frz o u)→H' b=some (.frz o u)
 tbls:∀ b ps,H b=some (.tbl ps)→∃ more,H' b=some (.tbl (ps++more))
section
variable {fs fs' ex ex':List Addr}{H H1 H2:Hp}{h h1 h2 h':Heap}{a x e:Addr}{o:HO}
theorem Un.any(u:Un fs ex H H1 h h1){b:Addr}{ob:Obj}(q:h.get? b=some ob)(n:H b=none)(hx:b ∉ ex):∃ sl,h1.get? b=some { ob with slots:=sl }:=by
 by_cases hb:b∈fs
 ·exact u.slot b ob q n hb hx
 ·exact⟨ob.slots,u.keep b ob q n hb hx⟩
theorem Un.trans(a:Un fs ex H H1 h h1)(b:Un fs ex H1 H2 h1 h2):Un fs ex H H2 h h2 where
 keep:=fun c ob q n hc hx=>b.keep c ob (a.keep c ob q n hc hx) (a.free c ob q n hx) hc hx
 slot:=fun c ob q n hc hx=>by
  obtain⟨sl,e1⟩:=a.slot c ob q n hc hx
  obtain⟨sl',e2⟩:=b.slot c _ e1 (a.free c ob q n hx) hc hx
  exact⟨sl',e2⟩
 free:=fun c ob q n hx=>by
  obtain⟨o',e1⟩:=a.there c ob q hx
  exact b.free c o' e1 (a.free c ob q n hx) hx
 there:=fun c ob q hx=>by
  obtain⟨o',e1⟩:=a.there c ob q hx
  exact b.there c o' e1 hx
 tups:=fun c xs q=>b.tups c xs (a.tups c xs q)
 frzs:=fun c ob xs q=>b.frzs c ob xs (a.frzs c ob xs q)
 tbls:=fun c ps q=>by
  obtain⟨m1,e1⟩:=a.tbls c ps q
  obtain⟨m2,e2⟩:=b.tbls c _ e1
  exact⟨m1++m2,by rw[e2,Array.append_assoc]⟩
theorem Un.kept(k:∀ b u,h.get? b=some u→h'.get? b=some u):Un fs ex H H h h':=
 ⟨fun b ob q _ _ _=>k b ob q,fun b ob q _ _ _=>⟨ob.slots,k b ob q⟩,fun _ _ _ n _=>n,fun b ob q _=>⟨ob,k b ob q⟩,fun _ _ q=>q,fun _ _ _ q=>q,fun _ ps q=>⟨#[],by rw[q]; simp⟩⟩
theorem Un.refl:Un fs ex H H h h:=Un.kept fun _ _ q=>q
theorem Un.laid(k:∀ b u,h.get? b=some u→h'.get? b=some u)(hp:h.objs.size≤a)(hn:H a=none):Un fs ex H (upd H a o) h h' where
 keep:=fun b u q _ _ _=>k b u q
 slot:=fun b u q _ _ _=>⟨u.slots,k b u q⟩
 free:=fun b u q n _=>by rw[upd_ne (Nat.ne_of_lt (Nat.lt_of_lt_of_le (Heap.lt_size q) hp))]; exact n
 there:=fun b u q _=>⟨u,k b u q⟩
 tups:=fun b xs q=>by rw[upd_ne (ne_of_none q hn)]; exact q
 frzs:=fun b u xs q=>by rw[upd_ne (ne_of_none q hn)]; exact q
 tbls:=fun b ps q=>⟨#[],by rw[upd_ne (ne_of_none q hn),q]; simp⟩
theorem Un.write(mu:Mut (H x))(he:e=x∨H e=some (.own x))(k:∀ b u,b≠e→h.get? b=some u→h'.get? b=some u)(heo:∃ u,h'.get? e=some u):Un fs ex H (upd H x o) h h':=by
 have hx:∀ b,H b=none→b≠x:=fun b n z=>by subst z; rw[n]at mu; exact mu
 have hb:∀ b,H b=none→b≠e:=fun b n z=>by
  subst z
  rcases he with r|r
  ·exact hx b n r
  ·rw[n]at r; cases r
 have hm:∀ b u,H b=some u→¬ Mut (some u)→b≠x:=fun b u q nm z=>by subst z; rw[q]at mu; exact nm mu
 refine⟨fun b u q n _ _=>k b u (hb b n) q,fun b u q n _ _=>⟨u.slots,k b u (hb b n) q⟩,fun b u q n _=>by rw[upd_ne (hx b n)]; exact n,fun b u q _=>?_,
  fun b xs q=>by rw[upd_ne (hm b _ q fun z=>z)]; exact q,fun b u xs q=>by rw[upd_ne (hm b _ q fun z=>z)]; exact q,fun b ps q=>⟨#[],by rw[upd_ne (hm b _ q fun z=>z),q]; simp⟩⟩
 by_cases hbe:b=e
 ·subst hbe; exact heo
 ·exact⟨u,k b u hbe q⟩
theorem Un.mono(u:Un fs ex H H1 h h1)(hs:∀ b∈fs,b∈fs')(hx:∀ b∈ex,b∈ex'):Un fs' ex' H H1 h h1:=
 ⟨fun b ob q n hb he=>u.keep b ob q n (fun z=>hb (hs b z)) fun z=>he (hx b z),fun _ _ q n _ he=>u.any q n fun z=>he (hx _ z),fun b ob q n he=>u.free b ob q n fun z=>he (hx b z),fun b ob q he=>u.there b ob q fun z=>he (hx b z),u.tups,u.frzs,u.tbls⟩
end
noncomputable def trk(h:Heap)(H:Hp):List Addr:=(List.range h.objs.size).filter fun a=>(H a).isSome
noncomputable def hidT(h:Heap)(H:Hp):Heap:=PySem.W.hideAll h (trk h H)
theorem hidT_size(h:Heap)(H:Hp):(hidT h H).objs.size=h.objs.size:=PySem.W.hideAll_size _ _
theorem hidT_get{h:Heap}{H:Hp}{b:Addr}{o:Obj}(e:h.get? b=some o)(n:H b=none):(hidT h H).get? b=some o:=
 PySem.W.hideAll_get _ e fun hm=>by
  have q:(H b).isSome=true:=(List.mem_filter.mp hm).2
  rw[n]at q; simp at q
theorem of_hidT{h:Heap}{H:Hp}{b:Addr}{o:Obj}(e:(hidT h H).get? b=some o):h.get? b=some o∧H b=none:=by
 have e':h.get? b=some o:=PySem.W.of_hideAll (trk h H) e
 refine⟨e',?_⟩
 cases q:H b with
 |none=>rfl
 |some x=>
  have hm:b∈trk h H:=List.mem_filter.mpr ⟨List.mem_range.mpr (Heap.lt_size e'),by simp[q]⟩
  have z:(hidT h H).get? b=none:=PySem.W.hideAll_none (trk h H) hm
  rw[z]at e; cases e
noncomputable def allNews(g h:Heap)(L:Addr):List (Addr×Obj):=(List.range h.objs.size).filterMap fun a=>if a=L∨(g.get? a).isSome=true then none else(h.get? a).map fun o=>(a,o)
noncomputable def rest(g h:Heap)(L d:Addr):List (Addr×Obj):=(allNews g h L).filter fun p=>decide (p.1≠d)
end L2
namespace L2
open PySem PySem.Spec PyProof.Rows
structure Mod (K:PySem.W.Frag) (mg:Str→Option Value) (base:Heap):Prop where
 kin:K.In base
 glob:base.Ns mainGlobals mg
 blt:∃ mb,base.Ns builtinsNs mb∧∀ x:Str,x ≠ "__name__"→mb x=bootBuiltins x
 nolimit:base.NoLimit
structure Cx where
 prog:Program
 w:World
 K:PySem.W.Frag
 mg:Str→Option Value
 base:Heap
 A:Around
 N:List Str
 s₀:Shared
 H₀:Hp
 env:Env
 outer:List Env
 stack:List Env
 ex:List Addr
 fn:Str→Bool
 calm:Bool
 pn:List (Addr×Obj)
 xe:Value→Shared→Prop
noncomputable def frs(l:List Env):List Addr:=l.filterMap (·.frame)
noncomputable abbrev Cx.fs(X:Cx):List Addr:=frs X.outer
def Vis(sc:Scope)(x:Str):Prop:=sc.names.lookup x=some .local∨sc.names.lookup x=some .cell∨sc.names.lookup x=some .free
def Loc(sc:Scope)(x:Str):Prop:=sc.names.lookup x=some .local∨sc.names.lookup x=some .cell
def Look(env:Env)(h:Heap)(m:Str→Option Value)(x:Str)(u:Value):Prop:=
 (env.kindOf x=some .local∧m x=some u)∨((env.kindOf x=some .cell∨env.kindOf x=some .free)∧∃ c,env.cells.lookup x=some c∧h.IsCell c (some u))
structure Cx.Ok (X:Cx):Prop where
 mod:Mod X.K X.mg X.base
 kind:X.env.scope.kind=.function
 glob:X.env.globals=mainGlobals
 blt:X.env.builtins=builtinsNs
 above:X.s₀.heap.objs.size≤X.env.locals
 inj:∀ x y c,X.env.cells.lookup x=some c→X.env.cells.lookup y=some c→x=y
 has:∀ x,(X.env.kindOf x=some .cell∨X.env.kindOf x=some .free)→∃ c,X.env.cells.lookup x=some c
 cab:∀ x c,X.fn x=true→X.env.cells.lookup x=some c→X.s₀.heap.objs.size≤c
 hd:X.calm=true→X.A.handled=none
 frames:X.A.frames=some X.stack
 stk:X.stack=X.outer∨(X.stack=X.env::X.outer∧X.env.frame=some X.env.locals)
 exf:∀ b∈X.ex,b≠X.env.locals∧∀ x c,X.env.cells.lookup x=some c→c≠b
 bs:∀ b o,X.base.get? b=some o→X.s₀.heap.get? b=some o∧X.H₀ b=none
 bsz:X.base.objs.size≤X.s₀.heap.objs.size
 noex:∀ b o,X.base.get? b=some o→b ∉ X.ex
 exfs:∀ b∈X.ex,b ∉ X.fs
 funs:X.s₀.heap.FunFrames X.base X.outer
 frf:∀ b∈X.fs,X.H₀ b=none
structure Inv (X:Cx) (pins:List (Addr×Obj)) (σ:List (Option V)) (H:Hp) (s:Shared):Prop where
 ok:X.Ok
 os:s.os=X.s₀.os
 bare:AllBare s.gens
 base:Un X.fs X.ex X.H₀ H X.s₀.heap s.heap
 loc:∃ m,s.heap.Ns X.env.locals m∧∀ (i:Nat) (x:Str) (v:V),X.N[i]?=some x→σ[i]?=some (some v)→Vis X.env.scope x→∃ u,RelV v u∧Look X.env s.heap m x u
 cell:∀ x c,X.env.cells.lookup x=some c→∃ v,s.heap.IsCell c v
 free:H X.env.locals=none
 freeC:∀ x c,X.env.cells.lookup x=some c→H c=none
 pin:∀ p∈X.pn++pins,s.heap.get? p.1=some p.2∧H p.1=none∧p.1≠X.env.locals∧p.1 ∉ X.fs∧∀ v,p.2.data≠.cell v
 hok:HOk X.prog X.w H s.heap
 len:σ.length=X.N.length
section
variable {X:Cx}{pins:List (Addr×Obj)}{σ:List (Option V)}{H H':Hp}{s:Shared}{h':Heap}
theorem Cx.Ok.nofr(ok:X.Ok){b:Addr}{o:Obj}(e:X.base.get? b=some o):b ∉ X.fs:=fun hb=>by
 have:=(ok.funs.mem hb).1
 rw[e]at this; cases this
theorem Inv.bs(I:Inv X pins σ H s):∀ b o,X.base.get? b=some o→s.heap.get? b=some o∧H b=none:=fun b o e=>
 ⟨I.base.keep b o (I.ok.bs b o e).1 (I.ok.bs b o e).2 (I.ok.nofr e) (I.ok.noex b o e),I.base.free b o (I.ok.bs b o e).1 (I.ok.bs b o e).2 (I.ok.noex b o e)⟩
theorem Inv.bk(I:Inv X pins σ H s):∀ b o,X.base.get? b=some o→s.heap.get? b=some o:=fun b o e=>(I.bs b o e).1
theorem Inv.mod(I:Inv X pins σ H s):Mod X.K X.mg X.base:=I.ok.mod
theorem Inv.kIn(I:Inv X pins σ H s):X.K.In s.heap:=I.ok.mod.kin.keeps I.bk
theorem Inv.nolimit(I:Inv X pins σ H s):s.heap.NoLimit:=I.ok.mod.nolimit.keeps I.bk
theorem Inv.fr(I:Inv X pins σ H s):∃ m,Fr X.base X.env.locals s.heap m:=
 let ⟨m,hn,_⟩:=I.loc
 ⟨m,hn,I.bk,Nat.le_trans I.ok.bsz I.ok.above⟩
theorem Inv.lt(I:Inv X pins σ H s):X.env.locals<s.heap.objs.size:=let ⟨_,hn,_⟩:=I.loc; hn.lt
theorem Inv.sz(I:Inv X pins σ H s):X.s₀.heap.objs.size≤s.heap.objs.size:=Nat.le_trans I.ok.above (Nat.le_of_lt I.lt)
theorem Inv.nofs(I:Inv X pins σ H s){a:Addr}(h:s.heap.objs.size≤a):a ∉ X.fs:=fun hb=>by
 obtain⟨_,o,ho,_⟩:=I.ok.funs.mem hb
 exact absurd (Nat.lt_of_lt_of_le (Heap.lt_size ho) (Nat.le_trans I.sz h)) (Nat.lt_irrefl _)
theorem Inv.cne(I:Inv X pins σ H s):∀ x c,X.env.cells.lookup x=some c→c≠X.env.locals:=fun x c e z=>by
 obtain⟨v,o,ho,hd⟩:=I.cell x c e
 obtain⟨m,⟨o',es,ep,ho',hd',_⟩,_⟩:=I.loc
 rw[z,ho']at ho; cases ho; rw[hd']at hd; cases hd
theorem Inv.funs(I:Inv X pins σ H s):s.heap.FunFrames X.base X.outer:=by
 have all:∀ (l:List Env),(∀ b∈frs l,b∈X.fs)→X.s₀.heap.FunFrames X.base l→s.heap.FunFrames X.base l:=by
  intro l
  induction l with
  |nil=>intro _ _; trivial
  |cons env r ih=>
   intro hs hl
   obtain⟨hk,⟨L,o,hf,hn,ho,hd⟩,hr⟩:=hl
   have hL:L∈X.fs:=hs L (by unfold frs; rw[List.filterMap_cons,hf]; exact List.mem_cons_self)
   obtain⟨sl,e⟩:=I.base.slot L o ho (I.ok.frf L hL) hL fun z=>I.ok.exfs L z hL
   exact⟨hk,⟨L,_,hf,hn,e,hd⟩,ih (fun b hb=>hs b (by unfold frs; rw[List.filterMap_cons,hf]; exact List.mem_cons_of_mem _ hb)) hr⟩
 exact all X.outer (fun _ hb=>hb) I.ok.funs
theorem Inv.stack(I:Inv X pins σ H s):s.heap.FunFrames X.base X.stack:=by
 rcases I.ok.stk with e|⟨e,hf⟩
 ·rw[e]; exact I.funs
 ·rw[e]
  obtain⟨m,hn,_⟩:=I.loc
  refine .cons (by rw[I.ok.kind]; decide) hf hn ?_ I.funs
  exact Heap.get?_none_of_le (Nat.le_trans I.ok.bsz I.ok.above)
theorem Inv.stkSub(I:Inv X pins σ H s):∀ b∈frs X.stack,b∈X.env.locals::X.fs:=fun b hb=>by
 rcases I.ok.stk with e|⟨e,hf⟩
 ·rw[e]at hb; exact List.mem_cons_of_mem _ hb
 ·rw[e]at hb
  unfold frs at hb
  rw[List.filterMap_cons,hf]at hb
  exact hb
theorem Inv.stkFree(I:Inv X pins σ H s):∀ b∈frs X.stack,H b=none:=fun b hb=>by
 rcases List.mem_cons.mp (I.stkSub b hb) with e|hb
 ·rw[e]; exact I.free
 ·obtain⟨_,o,ho,_⟩:=I.ok.funs.mem hb
  exact I.base.free b o ho (I.ok.frf b hb) fun z=>I.ok.exfs b z hb
theorem Inv.step{g':Array GenState}{t':Nat}{d':Drawn}{ch:List Addr}(I:Inv X pins σ H s)
  (hch:∀ b∈ch,(b∈X.ex∨X.s₀.heap.objs.size≤b)∧b≠X.env.locals∧(∀ x c,X.env.cells.lookup x=some c→c≠b)∧∀ p∈X.pn++pins,p.1≠b)
  (keep:∀ b o,b≠X.env.locals→b ∉ X.fs→b ∉ ch→s.heap.get? b=some o→H b=none→h'.get? b=some o)
  (slot:∀ b o,b≠X.env.locals→b∈X.fs→b ∉ ch→s.heap.get? b=some o→H b=none→∃ sl,h'.get? b=some { o with slots:=sl }) (free:∀ b o,b ∉ ch→s.heap.get? b=some o→H b=none→H' b=none)
  (there:∀ b o,b ∉ ch→s.heap.get? b=some o→∃ o',h'.get? b=some o')
  (tups:∀ b xs,H b=some (.tup xs)→H' b=some (.tup xs)) (frzs:∀ b o u,H b=some (.frz o u)→H' b=some (.frz o u)) (tbls:∀ b ps,H b=some (.tbl ps)→∃ more,H' b=some (.tbl (ps++more)))
  (ns:∀ m,s.heap.Ns X.env.locals m→h'.Ns X.env.locals m) (hok:HOk X.prog X.w H' h') (hg:AllBare g') :
  Inv X pins σ H' { s with heap:=h',gens:=g',drawn:=d',toks:=t' }:=by
 have neL:∀ b o,X.s₀.heap.get? b=some o→b≠X.env.locals:=fun b o e=>Nat.ne_of_lt (Nat.lt_of_lt_of_le (Heap.lt_size e) I.ok.above)
 have neC:∀ b o,X.s₀.heap.get? b=some o→b ∉ X.ex→b ∉ ch:=fun b o e hx hb=>by
  rcases (hch b hb).1 with z|z
  ·exact hx z
  ·exact absurd (Nat.lt_of_lt_of_le (Heap.lt_size e) z) (Nat.lt_irrefl _)
 have cellK:∀ x c,X.env.cells.lookup x=some c→∀ v,s.heap.IsCell c v→h'.IsCell c v:=fun x c e v ⟨o,ho,hd⟩=>by
  have nch:c ∉ ch:=fun z=>(hch c z).2.2.1 x c e rfl
  by_cases hc:c∈X.fs
  ·obtain⟨sl,q⟩:=slot c o (I.cne x c e) hc nch ho (I.freeC x c e)
   exact⟨_,q,hd⟩
  ·exact⟨o,keep c o (I.cne x c e) hc nch ho (I.freeC x c e),hd⟩
 refine⟨I.ok,I.os,hg,⟨fun b o e n hb hx=>?_,fun b o e n hb hx=>?_,fun b o e n hx=>?_,fun b o e hx=>?_,fun b xs e=>tups b xs (I.base.tups b xs e),fun b o xs e=>frzs b o xs (I.base.frzs b o xs e),fun b ps e=>?_⟩,?_,fun x c e=>?_,?_,fun x c e=>?_,fun p hp=>?_,hok,I.len⟩
 ·exact keep b o (neL b o e) hb (neC b o e hx) (I.base.keep b o e n hb hx) (I.base.free b o e n hx)
 ·obtain⟨sl,e1⟩:=I.base.slot b o e n hb hx
  obtain⟨sl',e2⟩:=slot b _ (neL b o e) hb (neC b o e hx) e1 (I.base.free b o e n hx)
  exact⟨sl',e2⟩
 ·obtain⟨o',e1⟩:=I.base.there b o e hx
  exact free b o' (neC b o e hx) e1 (I.base.free b o e n hx)
 ·obtain⟨o',e1⟩:=I.base.there b o e hx
  exact there b o' (neC b o e hx) e1
 ·obtain⟨m1,e1⟩:=I.base.tbls b ps e
  obtain⟨m2,e2⟩:=tbls b _ e1
  exact⟨m1++m2,by rw[e2,Array.append_assoc]⟩
 ·obtain⟨m,hn,hl⟩:=I.loc
  refine⟨m,ns m hn,fun i x v e1 e2 e3=>?_⟩
  obtain⟨u,r,l⟩:=hl i x v e1 e2 e3
  refine⟨u,r,?_⟩
  rcases l with l|⟨k,c,e,z⟩
  ·exact .inl l
  ·exact .inr ⟨k,c,e,cellK x c e _ z⟩
 ·obtain⟨v,z⟩:=I.cell x c e
  exact⟨v,cellK x c e v z⟩
 ·obtain⟨m,⟨o,_,_,ho,_⟩,_⟩:=I.loc
  exact free _ o (fun z=>(hch _ z).2.1 rfl) ho I.free
 ·obtain⟨v,o,ho,hd⟩:=I.cell x c e
  exact free c o (fun z=>(hch c z).2.2.1 x c e rfl) ho (I.freeC x c e)
 ·obtain⟨e,n,ne,nf,d⟩:=I.pin p hp
  have nch:p.1 ∉ ch:=fun z=>(hch p.1 z).2.2.2 p hp rfl
  exact⟨keep p.1 p.2 ne nf nch e n,free p.1 p.2 nch e n,ne,nf,d⟩
theorem Inv.un{t':Nat}(I:Inv X pins σ H s)(u:Un X.fs [] H H' s.heap h')(hok:HOk X.prog X.w H' h'):Inv X pins σ H' { s with heap:=h',toks:=t' }:=by
 obtain⟨m,⟨o,es,ep,ho,r⟩,_⟩:=id I.loc
 obtain⟨sl,hL⟩:=u.any ho I.free (by simp)
 exact I.step (g':=s.gens) (d':=s.drawn) (ch:=[]) (fun _ z=>nomatch z) (fun b o _ hb _ e n=>u.keep b o e n hb (by simp)) (fun b o _ hb _ e n=>u.slot b o e n hb (by simp)) (fun b o _ e n=>u.free b o e n (by simp)) (fun b o _ e=>u.there b o e (by simp)) u.tups u.frzs u.tbls (fun m' hm=>by
  obtain⟨o',es',ep',ho',r'⟩:=hm
  rw[ho]at ho'; cases ho'
  exact⟨_,es',ep',hL,r'⟩) hok I.bare
theorem Inv.call{g':Array GenState}{t':Nat}{d':Drawn}{ch:List Addr}(I:Inv X pins σ H s)(u:Un (frs X.stack) ch H H' s.heap h')(hok:HOk X.prog X.w H' h')(hg:AllBare g')
  (hch:∀ b∈ch,(b∈X.ex∨X.s₀.heap.objs.size≤b)∧b≠X.env.locals∧(∀ x c,X.env.cells.lookup x=some c→c≠b)∧∀ p∈X.pn++pins,p.1≠b) :
  Inv X pins σ H' { s with heap:=h',gens:=g',drawn:=d',toks:=t' }:=by
 obtain⟨m,⟨o,es,ep,ho,r⟩,_⟩:=id I.loc
 obtain⟨sl,hL⟩:=u.any ho I.free fun z=>(hch _ z).2.1 rfl
 exact I.step (ch:=ch) hch (fun b o hL hb hc e n=>u.keep b o e n (fun z=>(List.mem_cons.mp (I.stkSub b z)).elim hL hb) hc) (fun b o _ _ hc e n=>u.any e n hc) (fun b o hc e n=>u.free b o e n hc) (fun b o hc e=>u.there b o e hc) u.tups u.frzs u.tbls (fun m' hm=>by
  obtain⟨o',es',ep',ho',r'⟩:=hm
  rw[ho]at ho'; cases ho'
  exact⟨_,es',ep',hL,r'⟩) hok hg
theorem Inv.turned{t':Nat}{it:Addr}(I:Inv X pins σ H s)(k:∀ b o,b≠it→s.heap.get? b=some o→h'.get? b=some o)(hn:H it=none)(hL:it≠X.env.locals)
  (h1:it∈X.ex∨X.s₀.heap.objs.size≤it) (h2:∀ x c,X.env.cells.lookup x=some c→c≠it) (h3:∀ p∈X.pn++pins,p.1≠it):Inv X pins σ H { s with heap:=h',toks:=t' }:=by
 have nit:∀ b u,H b=some u→b≠it:=fun b u e z=>by rw[z,hn]at e; cases e
 refine I.step (g':=s.gens) (d':=s.drawn) (ch:=[it]) (fun b hb=>?_) (fun b o _ _ hc e _=>k b o (fun z=>hc (by simp[z])) e) (fun b o _ _ hc e _=>⟨o.slots,k b o (fun z=>hc (by simp[z])) e⟩) (fun _ _ _ _ n=>n)
  (fun b o hc e=>⟨o,k b o (fun z=>hc (by simp[z])) e⟩) (fun _ _ e=>e) (fun _ _ _ e=>e) (fun b ps e=>⟨#[],by rw[e]; simp⟩) (fun m hm=>?_) (fun b u e=>?_) I.bare
 ·have e:b=it:=by simpa using hb
  subst e
  exact⟨h1,hL,h2,h3⟩
 ·obtain⟨o,es,ep,ho,r⟩:=hm
  exact⟨o,es,ep,k _ o (Ne.symm hL) ho,r⟩
 ·refine(I.hok b u e).stay (fun c v hc q=>k c v ?_ q) (fun _ q=>q) fun _ _ q=>q
  rcases hc with z|z
  ·rw[z]; exact nit b u e
  ·exact nit c _ z
theorem Inv.tok(I:Inv X pins σ H s)(t:Nat):Inv X pins σ H { s with toks:=t }:=I.un (h':=s.heap) (t':=t) Un.refl I.hok
theorem Inv.kept{t':Nat}(I:Inv X pins σ H s)(k:∀ b u,s.heap.get? b=some u→h'.get? b=some u):Inv X pins σ H { s with heap:=h',toks:=t' }:=I.un (Un.kept k) (I.hok.kept k)
theorem Inv.laid{a:Addr}{o:HO}{t':Nat}(I:Inv X pins σ H s)(k:∀ b u,s.heap.get? b=some u→h'.get? b=some u)(hp:s.heap.objs.size≤a)(new:ObjOk X.prog X.w (upd H a o) h' a o):
  Inv X pins σ (upd H a o) { s with heap:=h',toks:=t' }:=I.un (Un.laid k hp (I.hok.fresh hp)) (I.hok.laid k hp new)
theorem Inv.write{x e:Addr}{o:HO}{t':Nat}(I:Inv X pins σ H s)(mu:Mut (H x))(he:e=x∨H e=some (.own x))(k:∀ b u,b≠e→s.heap.get? b=some u→h'.get? b=some u)(heo:∃ u,h'.get? e=some u)
  (new:ObjOk X.prog X.w (upd H x o) h' x o):Inv X pins σ (upd H x o) { s with heap:=h',toks:=t' }:=I.un (Un.write mu he k heo) (I.hok.write mu he k heo new)
theorem Inv.pins_of{pins':List (Addr×Obj)}(I:Inv X pins σ H s)(h:∀ p∈pins',s.heap.get? p.1=some p.2∧H p.1=none∧p.1≠X.env.locals∧p.1 ∉ X.fs∧∀ v,p.2.data≠.cell v):Inv X pins' σ H s:=
 ⟨I.ok,I.os,I.bare,I.base,I.loc,I.cell,I.free,I.freeC,fun p hp=>(List.mem_append.mp hp).elim (fun z=>I.pin p (List.mem_append_left _ z)) (h p),I.hok,I.len⟩
theorem nodup_ix{N:List Str}(hN:N.Nodup){i j:Nat}{x:Str}(a:N[i]?=some x)(b:N[j]?=some x):i=j:=by
 obtain⟨h1,e1⟩:=List.getElem?_eq_some_iff.mp a
 obtain⟨h2,e2⟩:=List.getElem?_eq_some_iff.mp b
 exact(List.getElem_inj hN).mp (e1.trans e2.symm)
theorem store_ok2{M:Model}{A:Around}{E:Value→Shared→Prop}{i:Nat}{x:Str}{v:V}{u:Value}{Q:Unit→Shared→Prop}(I:Inv X pins σ H s)(hN:X.N.Nodup)(hi:X.N[i]?=some x)(hx:Loc X.env.scope x)(r:RelV v u)
  (h:∀ s',Inv X pins (σ.set i (some v)) H s'→(∃ a,Heap.SameBut a s.heap s'.heap∧(a=X.env.locals∨X.env.cells.lookup x=some a))→Q () s') (hf:X.fn x=true∨X.env.scope.names.lookup x=some .local):wpAny M A (storeName X.env x u) Q E s:=by
 obtain⟨m,hn,hl⟩:=id I.loc
 have hcls:(X.env.scope.kind==.class||(X.env.scope.kind==.module&&X.env.locals != X.env.globals))=false:=by rw[I.ok.kind]; rfl
 have hiσ:i<σ.length:=by rw[I.len]; exact(List.getElem?_eq_some_iff.mp hi).1
 have cne:=I.cne
 have tracked:∀ {a:Addr}{h':Heap},(∃ o,s.heap.get? a=some o∧H a=none)→Heap.SameBut a s.heap h'→HOk X.prog X.w H h':=fun {a h'} ha hs b ob e=>by
  obtain⟨_,_,hfree⟩:=ha
  refine(I.hok b ob e).stay (fun c w' hc q=>(hs.2 c ?_).trans q) (fun _ q=>q) fun _ _ q=>q
  rintro rfl
  rcases hc with rfl|hc
  ·rw[hfree]at e; cases e
  ·rw[hfree]at hc; cases hc
 rcases hx with hk|hk
 ·refine wpAny_storeName_local hk hn (fun h' hn' hs=>?_) hcls
  obtain⟨oL,_,_,hoL,_⟩:=id hn
  refine h _ ⟨I.ok,I.os,I.bare,⟨fun b o e n hb hx=>?_,fun b o e n hb hx=>?_,I.base.free,fun b o e hx=>?_,I.base.tups,I.base.frzs,I.base.tbls⟩,⟨_,hn',fun j y v' e1 e2 e3=>?_⟩,fun y c e=>?_,I.free,I.freeC,fun p hp=>?_,tracked ⟨oL,hoL,I.free⟩ hs,by simpa using I.len⟩ ⟨_,hs,.inl rfl⟩
  ·exact(hs.2 b (Nat.ne_of_lt (Nat.lt_of_lt_of_le (Heap.lt_size e) I.ok.above))).trans (I.base.keep b o e n hb hx)
  ·obtain⟨sl,e1⟩:=I.base.slot b o e n hb hx
   exact⟨sl,(hs.2 b (Nat.ne_of_lt (Nat.lt_of_lt_of_le (Heap.lt_size e) I.ok.above))).trans e1⟩
  ·obtain⟨o',e1⟩:=I.base.there b o e hx
   exact⟨o',(hs.2 b (Nat.ne_of_lt (Nat.lt_of_lt_of_le (Heap.lt_size e) I.ok.above))).trans e1⟩
  ·by_cases hj:j=i
   ·subst hj
    rw[hi]at e1; cases e1
    rw[List.getElem?_set_self hiσ]at e2
    cases e2
    exact⟨u,r,.inl ⟨hk,by simp⟩⟩
   ·rw[List.getElem?_set_ne (Ne.symm hj)]at e2
    obtain⟨u',r',q⟩:=hl j y v' e1 e2 e3
    refine⟨u',r',?_⟩
    rcases q with⟨k,e⟩|⟨k,c,e,z⟩
    ·refine .inl ⟨k,?_⟩
     have:y≠x:=fun e=>hj (nodup_ix hN e1 (e▸hi))
     simp[this,e]
    ·exact .inr ⟨k,c,e,z.sameBut hs (cne y c e)⟩
  ·obtain⟨w',z⟩:=I.cell y c e
   exact⟨w',z.sameBut hs (cne y c e)⟩
  ·obtain⟨e,n,ne,nf,d⟩:=I.pin p hp
   exact⟨(hs.2 p.1 ne).trans e,n,ne,nf,d⟩
 ·have hfn:X.fn x=true:=by
   rcases hf with z|z
   ·exact z
   ·rw[z]at hk; cases hk
  obtain⟨c,hc⟩:=I.ok.has x (.inl hk)
  obtain⟨w',z⟩:=I.cell x c hc
  refine wpAny_storeName_cell I.ok.kind hk hc z (fun h' hc' hs=>?_)
  obtain⟨oc,hoc,hocd⟩:=id z
  refine h { s with heap:=h' } ⟨I.ok,I.os,I.bare,⟨fun b o e n hb hx=>?_,fun b o e n hb hx=>?_,I.base.free,fun b o e hx=>?_,I.base.tups,I.base.frzs,I.base.tbls⟩,⟨m,hn.sameBut hs (Ne.symm (cne x c hc)),fun j y v' e1 e2 e3=>?_⟩,fun y c' e=>?_,I.free,I.freeC,fun p hp=>?_,tracked ⟨oc,hoc,I.freeC x c hc⟩ hs,by simpa using I.len⟩ ⟨c,hs,.inr hc⟩
  ·exact(hs.2 b (Nat.ne_of_lt (Nat.lt_of_lt_of_le (Heap.lt_size e) (I.ok.cab x c hfn hc)))).trans (I.base.keep b o e n hb hx)
  ·obtain⟨sl,e1⟩:=I.base.slot b o e n hb hx
   exact⟨sl,(hs.2 b (Nat.ne_of_lt (Nat.lt_of_lt_of_le (Heap.lt_size e) (I.ok.cab x c hfn hc)))).trans e1⟩
  ·obtain⟨o',e1⟩:=I.base.there b o e hx
   exact⟨o',(hs.2 b (Nat.ne_of_lt (Nat.lt_of_lt_of_le (Heap.lt_size e) (I.ok.cab x c hfn hc)))).trans e1⟩
  ·by_cases hj:j=i
   ·subst hj
    rw[hi]at e1; cases e1
    rw[List.getElem?_set_self hiσ]at e2
    cases e2
    exact⟨u,r,.inr ⟨.inl hk,c,hc,hc'⟩⟩
   ·rw[List.getElem?_set_ne (Ne.symm hj)]at e2
    obtain⟨u',r',q⟩:=hl j y v' e1 e2 e3
    refine⟨u',r',?_⟩
    rcases q with q|⟨k,c',e,z'⟩
    ·exact .inl q
    ·refine .inr ⟨k,c',e,z'.sameBut hs ?_⟩
     rintro rfl
     exact hj (nodup_ix hN e1 (I.ok.inj _ _ _ e hc▸hi))
  ·by_cases hcc:c'=c
   ·subst hcc; exact⟨_,hc'⟩
   ·obtain⟨w2,z2⟩:=I.cell y c' e
    exact⟨w2,z2.sameBut hs hcc⟩
  ·obtain⟨e,n,ne,nf,d⟩:=I.pin p hp
   refine⟨(hs.2 p.1 ?_).trans e,n,ne,nf,d⟩
   intro q
   rw[q,hoc]at e
   have q':oc=p.2:=Option.some.inj e
   exact d w' (by rw[← q']; exact hocd)
theorem store_ok{M:Model}{A:Around}{E:Value→Shared→Prop}{i:Nat}{x:Str}{v:V}{u:Value}{Q:Unit→Shared→Prop}(I:Inv X pins σ H s)(hN:X.N.Nodup)(hi:X.N[i]?=some x)(hx:Loc X.env.scope x)(r:RelV v u)
  (h:∀ s',Inv X pins (σ.set i (some v)) H s'→Q () s') (hf:X.fn x=true∨X.env.scope.names.lookup x=some .local):wpAny M A (storeName X.env x u) Q E s:=
 store_ok2 I hN hi hx r (fun s' I' _=>h s' I') hf
theorem Inv.call'{s':Shared}{ch:List Addr}(I:Inv X pins σ H s)(ho:s'.os=s.os)(u:Un (frs X.stack) ch H H' s.heap s'.heap)(hok:HOk X.prog X.w H' s'.heap)(hg:AllBare s'.gens)
  (hch:∀ b∈ch,(b∈X.ex∨X.s₀.heap.objs.size≤b)∧b≠X.env.locals∧(∀ x c,X.env.cells.lookup x=some c→c≠b)∧∀ p∈X.pn++pins,p.1≠b):Inv X pins σ H' s':=by
 obtain⟨h',g',d',t',o'⟩:=s'
 have e:o'=s.os:=ho
 subst e
 exact I.call (g':=g') (t':=t') (d':=d') u hok hg hch
end
abbrev XK:=Value→Option Addr→Hp→Prop
abbrev St:=List (Option V)
abbrev VK:=V→Hp→Prop
abbrev TE:=St→Hp→VK→Prop
abbrev TT:=St→Hp→(Bool→Hp→Prop)→Prop
abbrev TA:=St→Hp→(List V→Hp→Prop)→Prop
structure Ends where
 nx:St→Hp→Prop
 rt:VK
 bk:St→Hp→Prop:=fun _ _=>False
 ct:St→Hp→Prop:=fun _ _=>False
abbrev TS:=Ends→St→Hp→Prop
def EP(X:Cx)(pins:List (Addr×Obj))(σ:St)(Q:VK)(u:Value)(s':Shared):Prop:=∃ v H',Inv X pins σ H' s'∧RelV v u∧Q v H'
def TP(X:Cx)(pins:List (Addr×Obj))(σ:St)(Q:Bool→Hp→Prop)(b:Bool)(s':Shared):Prop:=∃ H',Inv X pins σ H' s'∧Q b H'
def AP(X:Cx)(pins:List (Addr×Obj))(σ:St)(Q:List V→Hp→Prop)(us:List Value)(s':Shared):Prop:=∃ vs H',Inv X pins σ H' s'∧Vals vs us∧Q vs H'
def SP(X:Cx)(pins:List (Addr×Obj))(D:Ends)(f:Flow)(s':Shared):Prop:=
 match f with
 |.next=>∃ σ' H',Inv X pins σ' H' s'∧D.nx σ' H'
 |.brk=>∃ σ' H',Inv X pins σ' H' s'∧D.bk σ' H'
 |.cont=>∃ σ' H',Inv X pins σ' H' s'∧D.ct σ' H'
 |.ret u=>∃ v σ' H',Inv X pins σ' H' s'∧RelV v u∧D.rt v H'
def PE(X:Cx)(e:Expr)(t:TE):Prop:=
 ∀ (pins:List (Addr×Obj)) (s:Shared) (σ:St) (H:Hp) (Q:VK),Inv X pins σ H s→t σ H Q→wpAny (model X.prog X.w) X.A (eval e X.env) (EP X pins σ Q) X.xe s
def PT(X:Cx)(e:Expr)(t:TT):Prop:=
 ∀ (pins:List (Addr×Obj)) (s:Shared) (σ:St) (H:Hp) (Q:Bool→Hp→Prop),Inv X pins σ H s→t σ H Q→wpAny (model X.prog X.w) X.A (isTrue e X.env (eval e X.env)) (TP X pins σ Q) X.xe s
def PW(X:Cx)(e:Expr)(t:TT):Prop:=
 ∀ (whole:Sem Value) (pins:List (Addr×Obj)) (s:Shared) (σ:St) (H:Hp) (Q:Bool→Hp→Prop),Inv X pins σ H s→t σ H Q→wpAny (model X.prog X.w) X.A (isTrue e X.env whole) (TP X pins σ Q) X.xe s
theorem PW.pt{X:Cx}{e:Expr}{t:TT}(h:PW X e t):PT X e t:=h _
def PA(X:Cx)(es:List Expr)(t:TA):Prop:=
 ∀ (pos:Pos) (pins:List (Addr×Obj)) (s:Shared) (σ:St) (H:Hp) (Q:List V→Hp→Prop),Inv X pins σ H s→t σ H Q→wpAny (model X.prog X.w) X.A (spliced (backTo pos (starEach es X.env))) (AP X pins σ Q) X.xe s
def PS(X:Cx)(st:Stmt)(t:TS):Prop:=
 ∀ (pins:List (Addr×Obj)) (s:Shared) (σ:St) (H:Hp) (D:Ends),Inv X pins σ H s→t D σ H→wpAny (model X.prog X.w) X.A (exec st X.env) (SP X pins D) X.xe s
def PSs(X:Cx)(st:List Stmt)(t:TS):Prop:=
 ∀ (pins:List (Addr×Obj)) (s:Shared) (σ:St) (H:Hp) (D:Ends),Inv X pins σ H s→t D σ H→wpAny (model X.prog X.w) X.A (execs st X.env) (SP X pins D) X.xe s
theorem thn{α:Type}{t:Sem α}{Q Q':α→Shared→Prop}{M:Model}{A:Around}{E:Value→Shared→Prop}{s:Shared}(h:wpAny M A t Q E s)(hQ:∀ a s,Q a s→Q' a s):wpAny M A t Q' E s:=wpAny_mono h hQ fun _ _ x=>x
end L2
namespace L2
open PySem PySem.Spec PyProof.Rows
section
variable {X:Cx}
theorem bin{a b:Expr}{ta tb:TE}(ha:PE X a ta)(hb:PE X b tb){pins:List (Addr×Obj)}{s:Shared}{σ:St}{H:Hp}{R:V→V→Hp→Prop}(I:Inv X pins σ H s)(h:ta σ H fun x H1=>tb σ H1 fun y H2=>R x y H2)
  {α:Type}{Q:α→Shared→Prop}{f:Value→Value→Sem α}
  (hf:∀ v u s2 x y H2,Inv X pins σ H2 s2→RelV x v→RelV y u→R x y H2→wpAny (model X.prog X.w) X.A (f v u) Q X.xe s2) :
  wpAny (model X.prog X.w) X.A (eval a X.env) (fun v s₁=>wpAny (model X.prog X.w) X.A (eval b X.env) (fun u s₂=>wpAny (model X.prog X.w) X.A (f v u) Q X.xe s₂) X.xe s₁) X.xe s:=by
 refine thn (ha pins s σ H _ I h) fun v s1 ⟨x,H1,I1,r1,q1⟩=>?_
 refine thn (hb pins s1 σ H1 _ I1 q1) fun u s2 ⟨y,H2,I2,r2,q2⟩=>?_
 exact hf v u s2 x y H2 I2 r1 r2 q2
noncomputable def tVar(i:Nat):TE:=fun σ H Q=>∃ v,σ[i]?=some (some v)∧Q v H
noncomputable def tC(v:V):TE:=fun _ H Q=>Q v H
theorem pe_var{i:Nat}{x:Str}{pos:Pos}(hN:X.N[i]?=some x)(hv:Vis X.env.scope x)(hd:(x==("__debug__" : Str))=false:=by decide)(hcd:(x==("__classdict__" : Str))=false:=by decide):PE X (.Name x pos) (tVar i):=by
 intro pins s σ H Q I h
 obtain⟨v,e,h⟩:=h
 obtain⟨m,hn,hl⟩:=I.loc
 obtain⟨u,r,l⟩:=hl i x v hN e hv
 have fin:EP X pins σ Q u s:=⟨v,H,I,r,h⟩
 rcases l with⟨hk,hm⟩|⟨hk,c,hc,hcell⟩
 ·exact wpAny_Name (wpAny_loadName_local I.ok.kind hk hn hm fin) hd
 ·rcases hk with hk|hk
  ·exact wpAny_Name (wpAny_loadName_cell I.ok.kind hk hc hcell fin) hd
  ·exact wpAny_Name (wpAny_loadName_free I.ok.kind hk hc hcell fin hcd) hd
theorem pe_int{i j pos}:PE X (.Constant (.int i) j pos) (tC (.int i)):=fun _ _ _ H _ I h=>wpAny_Constant_int ⟨.int i,H,I.tok _,⟨_,rfl⟩,h⟩
theorem pe_bl{b j pos}:PE X (.Constant (.bool b) j pos) (tC (.bl b)):=fun _ _ _ H _ I h=>Constant_bool ⟨.bl b,H,I,rfl,h⟩
theorem pe_non{j pos}:PE X (.Constant .none j pos) (tC .non):=fun _ _ _ H _ I h=>Constant_none ⟨.non,H,I,rfl,h⟩
theorem pe_str{x j pos}:PE X (.Constant (.str x) j pos) (tC (.str x)):=fun _ _ _ H _ I h=>Calls.Constant_str ⟨.str x,H,I.tok _,⟨_,rfl⟩,h⟩
def Gl(X:Cx)(x:Str):Prop:=X.env.kindOf x=some .globalImplicit
theorem ld_glob{E:Value→Shared→Prop}{pins:List (Addr×Obj)}{s:Shared}{σ:St}{H:Hp}{x:Str}{u:Value}{pos:Pos}{Q:Value→Shared→Prop}(I:Inv X pins σ H s)(hg:Gl X x)(hm:X.mg x=some u)(h:Q u s)
  (hd:(x==("__debug__" : Str))=false:=by decide):wpAny (model X.prog X.w) X.A (eval (.Name x pos) X.env) Q E s:=
 Calls.Name_function_global I.ok.kind hg (Calls.loadGlobal_global (by rw[I.ok.glob]; exact I.mod.glob.keeps I.bk) hm h) hd
theorem ld_blt{E:Value→Shared→Prop}{pins:List (Addr×Obj)}{s:Shared}{σ:St}{H:Hp}{x:Str}{u:Value}{pos:Pos}{Q:Value→Shared→Prop}(I:Inv X pins σ H s)(hg:Gl X x)(hm:X.mg x=none)(hv:bootBuiltins x=some u)(h:Q u s)
  (hn:x ≠ "__name__":=by decide) (hd:(x==("__debug__" : Str))=false:=by decide):wpAny (model X.prog X.w) X.A (eval (.Name x pos) X.env) Q E s:=by
 obtain⟨mb,h1,h2⟩:=I.mod.blt
 exact Calls.Name_function_global I.ok.kind hg (Calls.loadGlobal_builtin (by rw[I.ok.glob]; exact I.mod.glob.keeps I.bk) hm (by rw[I.ok.blt]; exact h1.keeps I.bk) ((h2 x hn).trans hv) h) hd
theorem pe_glob{x:Str}{v:V}{u:Value}{pos:Pos}(hg:Gl X x)(hm:X.mg x=some u)(r:RelV v u)(hd:(x==("__debug__" : Str))=false:=by decide):PE X (.Name x pos) (tC v):=
 fun _ _ _ H _ I h=>ld_glob I hg hm ⟨v,H,I,r,h⟩ hd
theorem pe_bltn{x:Str}{v:V}{u:Value}{pos:Pos}(hg:Gl X x)(hm:X.mg x=none)(hv:bootBuiltins x=some u)(r:RelV v u)(hn:x ≠ "__name__":=by decide)(hd:(x==("__debug__" : Str))=false:=by decide):PE X (.Name x pos) (tC v):=
 fun _ _ _ H _ I h=>ld_blt I hg hm hv ⟨v,H,I,r,h⟩ hn hd
def t2I(ta tb:TE)(k:Int→Int→Hp→Prop):St→Hp→Prop:=fun σ H=>ta σ H fun x H1=>tb σ H1 fun y H2=>∃ i j,x=.int i∧y=.int j∧k i j H2
variable {a b:Expr}{ta tb:TE}{pos:Pos}
def PC(X:Cx)(op:CmpOp)(a b:Expr)(t:TE):Prop:=
 ∀ (pins:List (Addr×Obj)) (s:Shared) (σ:St) (H:Hp) (Q:VK),Inv X pins σ H s→t σ H Q→
  wpAny (model X.prog X.w) X.A (eval a X.env) (fun v s₁=>wpAny (model X.prog X.w) X.A (eval b X.env) (fun u s₂=>wpAny (model X.prog X.w) X.A (compareOp op v u) (EP X pins σ Q) X.xe s₂) X.xe s₁) X.xe s
theorem nobehind(b:Expr){op:CmpOp}(h:op≠.In)(h2:op≠.NotIn):behindInMarks op b=false:=by
 have e1:(op==CmpOp.In)=false:=by cases op<;>first|rfl|exact absurd rfl h
 have e2:(op==CmpOp.NotIn)=false:=by cases op<;>first|rfl|exact absurd rfl h2
 cases b<;>simp[behindInMarks,e1,e2]
noncomputable def tCmp(p:Int→Int→Bool)(ta tb:TE):TE:=fun σ H Q=>t2I ta tb (fun i j H2=>Q (.bl (p i j)) H2) σ H
noncomputable def tB(t:TE):TT:=fun σ H Q=>t σ H fun x H1=>∃ c,x=.bl c∧Q c H1
theorem pe_cmp{op:CmpOp}{t:TE}(h:PC X op a b t)(h1:behindInMarks op b=false):PE X (.Compare a [op] [b] pos) t:=fun pins s σ H Q I hw=>wpAny_Compare1 (h pins s σ H Q I hw) h1
theorem pt_cmp{op:CmpOp}{t:TE}(h:PC X op a b t)(h1:behindInMarks op b=false):PT X (.Compare a [op] [b] pos) (tB t):=by
 intro pins s σ H Q I hw
 refine wpAny_isTrue_Compare1 (thn (h pins s σ H _ I hw) fun v s1 h1=>thn h1 fun u s2 h2=>thn h2 fun c s3 ⟨x,H1,I1,r1,q1⟩=>?_) h1
 obtain⟨d,rfl,q⟩:=q1
 cases r1
 exact wpAny_truthy_bool ⟨H1,I1,q⟩
variable {tA tB':TT}{rest:List Expr}
noncomputable def tAnd(t u:TT):TT:=fun σ H Q=>t σ H fun c H1=>if c=true then u σ H1 Q else Q false H1
noncomputable def tOr(t u:TT):TT:=fun σ H Q=>t σ H fun c H1=>if c=true then Q true H1 else u σ H1 Q
noncomputable def tNot(t:TT):TT:=fun σ H Q=>t σ H fun c H1=>Q (!c) H1
theorem pw_and1(ha:PT X a tA):PW X (.BoolOp .And [a] pos) tA:=by
 intro wh pins s σ H Q I h
 refine isTrue_and (thn (ha pins s σ H Q I h) fun c s1 e=>?_)
 cases c with
 |true=>exact isTrue_and_nil e
 |false=>exact e
theorem pw_or1(ha:PT X a tA):PW X (.BoolOp .Or [a] pos) tA:=by
 intro wh pins s σ H Q I h
 refine isTrue_or (thn (ha pins s σ H Q I h) fun c s1 e=>?_)
 cases c with
 |false=>exact isTrue_or_nil e
 |true=>exact e
theorem pw_and(ha:PT X a tA)(hb:PW X (.BoolOp .And (b::rest) pos) tB'):PW X (.BoolOp .And (a::b::rest) pos) (tAnd tA tB'):=by
 intro wh pins s σ H Q I h
 refine isTrue_and (thn (ha pins s σ H _ I h) fun c s1 ⟨H1,I1,q1⟩=>?_)
 cases c with
 |true=>exact hb wh pins s1 σ H1 Q I1 q1
 |false=>exact⟨H1,I1,q1⟩
theorem pw_or(ha:PT X a tA)(hb:PW X (.BoolOp .Or (b::rest) pos) tB'):PW X (.BoolOp .Or (a::b::rest) pos) (tOr tA tB'):=by
 intro wh pins s σ H Q I h
 refine isTrue_or (thn (ha pins s σ H _ I h) fun c s1 ⟨H1,I1,q1⟩=>?_)
 cases c with
 |true=>exact⟨H1,I1,q1⟩
 |false=>exact hb wh pins s1 σ H1 Q I1 q1
theorem pt_not(ha:PT X a tA):PT X (.UnaryOp .Not a pos) (tNot tA):=by
 intro pins s σ H Q I h
 exact isTrue_not (ha pins s σ H (fun c H1=>Q (!c) H1) I h)
noncomputable def tAndV(ta tb:TE):TE:=fun σ H Q=>ta σ H fun x H1=>∃ c,x=.bl c∧if c=true then tb σ H1 Q else Q (.bl false) H1
noncomputable def tOrV(ta tb:TE):TE:=fun σ H Q=>ta σ H fun x H1=>∃ c,x=.bl c∧if c=true then Q (.bl true) H1 else tb σ H1 Q
noncomputable def tNotV(ta:TE):TE:=fun σ H Q=>ta σ H fun x H1=>∃ c,x=.bl c∧Q (.bl (!c)) H1
theorem pe_one{op}{t:TE}(h:PE X a t):PE X (.BoolOp op [a] pos) t:=fun pins s σ H Q I hw=>BoolOp_one (h pins s σ H Q I hw)
theorem pe_and(ha:PE X a ta)(hb:PE X (.BoolOp .And (b::rest) pos) tb):PE X (.BoolOp .And (a::b::rest) pos) (tAndV ta tb):=by
 intro pins s σ H Q I h
 refine BoolOp_and (thn (ha pins s σ H _ I h) fun v s1 ⟨x,H1,I1,r1,q1⟩=>?_)
 obtain⟨c,rfl,q1⟩:=q1
 cases r1
 refine wpAny_truthy_bool ?_
 cases c with
 |true=>exact hb pins s1 σ H1 Q I1 q1
 |false=>exact⟨.bl false,H1,I1,rfl,q1⟩
theorem pe_or(ha:PE X a ta)(hb:PE X (.BoolOp .Or (b::rest) pos) tb):PE X (.BoolOp .Or (a::b::rest) pos) (tOrV ta tb):=by
 intro pins s σ H Q I h
 refine BoolOp_or (thn (ha pins s σ H _ I h) fun v s1 ⟨x,H1,I1,r1,q1⟩=>?_)
 obtain⟨c,rfl,q1⟩:=q1
 cases r1
 refine wpAny_truthy_bool ?_
 cases c with
 |false=>exact hb pins s1 σ H1 Q I1 q1
 |true=>exact⟨.bl true,H1,I1,rfl,q1⟩
theorem pe_not(ha:PE X a ta):PE X (.UnaryOp .Not a pos) (tNotV ta):=by
 intro pins s σ H Q I h
 refine UnaryOp_ (thn (ha pins s σ H _ I h) fun v s1 ⟨x,H1,I1,r1,q1⟩=>?_)
 obtain⟨c,rfl,q1⟩:=q1
 cases r1
 exact not_of (wpAny_truthy_bool ⟨.bl (!c),H1,I1,rfl,q1⟩)
noncomputable def tIf(t:TT)(ta tb:TE):TE:=fun σ H Q=>t σ H fun c H1=>if c=true then ta σ H1 Q else tb σ H1 Q
theorem pe_ifExp{c:Expr}(hc:PT X c tA)(ha:PE X a ta)(hb:PE X b tb):PE X (.IfExp c a b pos) (tIf tA ta tb):=by
 intro pins s σ H Q I h
 refine wpAny_IfExp (thn (hc pins s σ H _ I h) fun d s1 ⟨H1,I1,q1⟩=>?_)
 cases d with
 |true=>exact ha pins s1 σ H1 Q I1 q1
 |false=>exact hb pins s1 σ H1 Q I1 q1
end
end L2
namespace L2
open PySem PySem.Spec PyProof.Rows
def SqL(K:PySem.W.Frag)(H:Hp)(a:Addr)(xs:List V):Prop:=
 Rd H a (.lst xs)∨
  ∃ (o:Obj) (its:Array Value) (n:Nat),K.lookup a=some o∧o.cls=.type "list"∧o.dict=none∧o.data=.seq its n∧its.size≤sizeLine∧Vals xs its.toList
def SqT(K:PySem.W.Frag)(H:Hp)(a:Addr)(xs:List V):Prop:=
 Rd H a (.tup xs)∨
  ∃ (o:Obj) (its:Array Value) (n:Nat),K.lookup a=some o∧o.cls=.type "tuple"∧o.data=.seq its n∧its.size≤sizeLine∧Vals xs its.toList
noncomputable def absV:Value→Option V
 |.none=>some .non
 |.bool b=>some (.bl b)
 |.int i _=>some (.int i)
 |.str x _=>some (.str x)
 |.bytes b _=>some (.byt b)
 |.float b _=>some (.flt b)
 |.ref a=>some (.ref a)
 |.type n=>some (.ty n)
 |_=>none
theorem RelV.abs{x:V}{u:Value}(r:RelV x u):absV u=some x:=by
 cases x with
 |non=>cases r; rfl
 |bl _=>cases r; rfl
 |int _=>obtain⟨t,rfl⟩:=r; rfl
 |str _=>obtain⟨t,rfl⟩:=r; rfl
 |byt _=>obtain⟨t,rfl⟩:=r; rfl
 |flt _=>obtain⟨t,rfl⟩:=r; rfl
 |ref _=>cases r; rfl
 |ty _=>cases r; rfl
theorem RelV.inj{x y:V}{u:Value}(r:RelV x u)(q:RelV y u):x=y:=Option.some.inj (r.abs.symm.trans q.abs)
theorem Vals.inj:∀ {xs ys:List V}{us:List Value},Vals xs us→Vals ys us→xs=ys
 |_,_,_,.nil,.nil=>rfl
 |_,_,_,.cons r t,.cons r' t'=>by rw[r.inj r',Vals.inj t t']
section
variable {X:Cx}{pins:List (Addr×Obj)}{σ:St}{H:Hp}{s:Shared}{a:Addr}{xs ys:List V}
theorem SqL.of{K:PySem.W.Frag}(h:H a=some (.lst xs)):SqL K H a xs:=.inl (.inl h)
theorem SqT.of{K:PySem.W.Frag}(h:H a=some (.tup xs)):SqT K H a xs:=.inl (.inl h)
theorem Inv.list(I:Inv X pins σ H s)(h:SqL X.K H a xs):∃ its:List Value,Vals xs its∧PlainL s.heap a its.toArray∧xs.length≤sizeLine:=by
 rcases h with h|⟨o,its,n,hk,hc,hd,hs,hz,r⟩
 ·obtain⟨z,its,n,r,e⟩:=h.ok I.hok
  exact⟨its,r,⟨_,n,e,rfl,rfl,rfl⟩,z⟩
 ·refine⟨its.toList,r,⟨o,n,I.kIn a o hk,hc,hd,by simpa using hs⟩,?_⟩
  have e:=r.length
  simp only[Array.length_toList]at e
  omega
theorem Inv.tuple(I:Inv X pins σ H s)(h:SqT X.K H a xs):∃ its:List Value,Vals xs its∧IsTup s.heap a its.toArray∧xs.length≤sizeLine:=by
 rcases h with h|⟨o,its,n,hk,hc,hs,hz,r⟩
 ·obtain⟨z,its,r,p⟩:=h.ok I.hok
  exact⟨its,r,p,z⟩
 ·refine⟨its.toList,r,⟨o,I.kIn a o hk,hc,n,by simpa using hs⟩,?_⟩
  have e:=r.length
  simp only[Array.length_toList]at e
  omega
theorem Inv.list_inj(I:Inv X pins σ H s)(h:SqL X.K H a xs)(h':SqL X.K H a ys):xs=ys:=by
 obtain⟨its,r,⟨o,n,e,_,_,d⟩,_⟩:=I.list h
 obtain⟨its',r',⟨o',n',e',_,_,d'⟩,_⟩:=I.list h'
 rw[e]at e'; cases e'
 rw[d]at d'
 injection d' with d1 _
 have:its=its':=by simpa using congrArg Array.toList d1
 subst this
 exact r.inj r'
theorem Inv.tuple_inj(I:Inv X pins σ H s)(h:SqT X.K H a xs)(h':SqT X.K H a ys):xs=ys:=by
 obtain⟨its,r,⟨o,e,_,n,d⟩,_⟩:=I.tuple h
 obtain⟨its',r',⟨o',e',_,n',d'⟩,_⟩:=I.tuple h'
 rw[e]at e'; cases e'
 rw[d]at d'
 injection d' with d1 _
 have:its=its':=by simpa using congrArg Array.toList d1
 subst this
 exact r.inj r'
end
noncomputable abbrev Cx.wish(X:Cx)(E:Value→Shared→Prop):Cx:={ X with xe:=E }
noncomputable abbrev Cx.nox(X:Cx):Cx:=X.wish fun _ _=>False
theorem Cx.Ok.wish{X:Cx}(ok:X.Ok)(E:Value→Shared→Prop):(X.wish E).Ok:=
 ⟨ok.mod,ok.kind,ok.glob,ok.blt,ok.above,ok.inj,ok.has,ok.cab,ok.hd,ok.frames,ok.stk,ok.exf,ok.bs,ok.bsz,ok.noex,ok.exfs,ok.funs,ok.frf⟩
theorem Cx.Ok.unwish{X:Cx}{E:Value→Shared→Prop}(ok:(X.wish E).Ok):X.Ok:=
 ⟨ok.mod,ok.kind,ok.glob,ok.blt,ok.above,ok.inj,ok.has,ok.cab,ok.hd,ok.frames,ok.stk,ok.exf,ok.bs,ok.bsz,ok.noex,ok.exfs,ok.funs,ok.frf⟩
section
variable {X:Cx}{pins:List (Addr×Obj)}{σ:St}{H:Hp}{s:Shared}{E:Value→Shared→Prop}
theorem Inv.wish(I:Inv X pins σ H s)(E:Value→Shared→Prop):Inv (X.wish E) pins σ H s:=⟨I.ok.wish E,I.os,I.bare,I.base,I.loc,I.cell,I.free,I.freeC,I.pin,I.hok,I.len⟩
theorem Inv.unwish(I:Inv (X.wish E) pins σ H s):Inv X pins σ H s:=⟨I.ok.unwish,I.os,I.bare,I.base,I.loc,I.cell,I.free,I.freeC,I.pin,I.hok,I.len⟩
theorem SP.unwish{D:Ends}{f:Flow}{s':Shared}(h:SP (X.wish E) pins D f s'):SP X pins D f s':=by
 cases f with
 |next=>obtain⟨σ',H',I,q⟩:=h; exact⟨σ',H',I.unwish,q⟩
 |brk=>obtain⟨σ',H',I,q⟩:=h; exact⟨σ',H',I.unwish,q⟩
 |cont=>obtain⟨σ',H',I,q⟩:=h; exact⟨σ',H',I.unwish,q⟩
 |ret u=>obtain⟨v,σ',H',I,r,q⟩:=h; exact⟨v,σ',H',I.unwish,r,q⟩
theorem PE.nox{e:Expr}{t:TE}(h:PE X.nox e t):PE X e t:=fun pins s σ H Q I hw=>
 wpAny_mono (h pins s σ H Q (I.wish _) hw) (fun _ _ ⟨v,H',I',r,q⟩=>⟨v,H',I'.unwish,r,q⟩) fun _ _ z=>False.elim z
theorem PT.nox{e:Expr}{t:TT}(h:PT X.nox e t):PT X e t:=fun pins s σ H Q I hw=>
 wpAny_mono (h pins s σ H Q (I.wish _) hw) (fun _ _ ⟨H',I',q⟩=>⟨H',I'.unwish,q⟩) fun _ _ z=>False.elim z
theorem PSs.nox{st:List Stmt}{t:TS}(h:PSs X.nox st t):PSs X st t:=fun pins s σ H D I hw=>
 wpAny_mono (h pins s σ H D (I.wish _) hw) (fun _ _ q=>q.unwish) fun _ _ z=>False.elim z
end
section
variable {X:Cx}{st:Stmt}{rest:List Stmt}{t u:TS}{e:Expr}{te:TE}{pos:Pos}
noncomputable def tNext:TS:=fun D σ H=>D.nx σ H
noncomputable def tSeq(t u:TS):TS:=fun D σ H=>t { D with nx:=u D } σ H
theorem pss_nil:PSs X [] tNext:=fun _ _ σ H _ I h=>wpAny_execs_nil ⟨σ,H,I,h⟩
theorem pss_cons(h1:PS X st t)(h2:PSs X rest u):PSs X (st::rest) (tSeq t u):=by
 intro pins s σ H D I h
 refine wpAny_execs_cons (thn (h1 pins s σ H { D with nx:=u D } I h) fun f s1 q=>?_)
 cases f with
 |next=>
  obtain⟨σ',H',I',q⟩:=q
  exact h2 pins s1 σ' H' D I' q
 |ret v=>exact q
 |brk=>exact q
 |cont=>exact q
theorem Inv.quiet{pins:List (Addr×Obj)}{σ:St}{H:Hp}{s:Shared}(I:Inv X pins σ H s):interactive X.env=false:=by simp[interactive,I.ok.kind]
theorem ps_doc{x j pos pos'}:PS X (.Expr (.Constant (.str x) j pos) pos') tNext:=fun _ s σ H _ I h=>wpAny_Expr (Calls.Constant_str (show SP X _ _ .next { s with toks:=s.toks+1 } from⟨σ,H,I.tok _,h⟩)) I.quiet
noncomputable def tDrop(te:TE):TS:=fun D σ H=>te σ H fun _ H1=>D.nx σ H1
theorem ps_expr(he:PE X e te)(hs:swapsWith e none pos.line X.env=pure false):PS X (.Expr e pos) (tDrop te):=by
 intro pins s σ H D I h
 exact wpAny_Expr_any (thn (he pins s σ H _ I h) fun v s1 ⟨x,H1,I1,r1,q1⟩=>⟨σ,H1,I1,q1⟩) I.quiet hs
noncomputable def tRet(te:TE):TS:=fun D σ H=>te σ H D.rt
theorem ps_ret(he:PE X e te):PS X (.Return (some e) pos) (tRet te):=by
 intro pins s σ H D I h
 exact wpAny_Return_some (thn (he pins s σ H _ I h) fun v s1 ⟨x,H1,I1,r1,q1⟩=>⟨x,σ,H1,I1,r1,q1⟩)
noncomputable def tIfS(c:TT)(t u:TS):TS:=fun D σ H=>c σ H fun b H1=>if b=true then t D σ H1 else u D σ H1
theorem ps_if{c:Expr}{a b:List Stmt}{tc:TT}(hc:PT X c tc)(ha:PSs X a t)(hb:PSs X b u):PS X (.If c a b pos) (tIfS tc t u):=by
 intro pins s σ H D I h
 refine wpAny_If (thn (hc pins s σ H _ I h) fun d s1 ⟨H1,I1,q1⟩=>?_)
 cases d with
 |true=>exact ha pins s1 σ H1 D I1 q1
 |false=>exact hb pins s1 σ H1 D I1 q1
end
abbrev TG:=V→St→Hp→(St→Hp→Prop)→Prop
abbrev TGs:=List V→St→Hp→(St→Hp→Prop)→Prop
def PG(X:Cx)(target:Expr)(t:TG):Prop:=
 ∀ (pins:List (Addr×Obj)) (s:Shared) (σ:St) (H:Hp) (v:V) (u:Value) (Q:St→Hp→Prop),Inv X pins σ H s→RelV v u→t v σ H Q→
  wpAny (model X.prog X.w) X.A (assign target X.env u) (fun _ s'=>∃ σ' H',Inv X pins σ' H' s'∧Q σ' H') X.xe s
def PGs(X:Cx)(ts:List Expr)(t:TGs):Prop:=
 ∀ (pins:List (Addr×Obj)) (s:Shared) (σ:St) (H:Hp) (vs:List V) (us:List Value) (Q:St→Hp→Prop),Inv X pins σ H s→Vals vs us→t vs σ H Q→
  wpAny (model X.prog X.w) X.A (assignInOrder ((assignEach ts X.env).map (·.2)) us) (fun _ s'=>∃ σ' H',Inv X pins σ' H' s'∧Q σ' H') X.xe s
section
variable {X:Cx}{pos:Pos}
noncomputable def gName(i:Nat):TG:=fun v σ H Q=>Q (σ.set i (some v)) H
theorem pg_name{i:Nat}{x:Str}(hN:X.N.Nodup)(hi:X.N[i]?=some x)(hx:Loc X.env.scope x)(hf:X.fn x=true∨X.env.scope.names.lookup x=some .local):PG X (.Name x pos) (gName i):=by
 intro pins s σ H v u Q I r h
 exact wpAny_assign_Name (store_ok I hN hi hx r (fun s' I'=>⟨_,H,I',h⟩) hf)
noncomputable def gNil:TGs:=fun vs σ H Q=>vs=[]∧Q σ H
noncomputable def gCons(t:TG)(u:TGs):TGs:=fun vs σ H Q=>∃ v r,vs=v::r∧t v σ H fun σ' H'=>u r σ' H' Q
theorem pgs_nil:PGs X [] gNil:=by
 intro pins s σ H vs us Q I r h
 obtain⟨e,h⟩:=h
 subst e
 cases r
 exact assignInOrder_nil ⟨σ,H,I,h⟩
theorem pgs_cons{e:Expr}{es:List Expr}{t:TG}{u:TGs}(h1:PG X e t)(h2:PGs X es u)
  (hs:(assignEach (e::es) X.env).map (·.2)=assign e X.env::(assignEach es X.env).map (·.2):=by rfl):PGs X (e::es) (gCons t u):=by
 intro pins s σ H vs us Q I r h
 obtain⟨v,vr,e1,h⟩:=h
 subst e1
 cases r with
 |cons r rr=>
  rw[hs]
  refine assignInOrder_cons (thn (h1 pins s σ H _ _ _ I r h) fun _ s1 ⟨σ1,H1,I1,q1⟩=>?_)
  exact h2 pins s1 σ1 H1 _ _ Q I1 rr q1
noncomputable def gTup(K:PySem.W.Frag)(n:Nat)(t:TGs):TG:=fun v σ H Q=>∃ a xs,v=.ref a∧SqT K H a xs∧xs.length=n∧t xs σ H Q
theorem pg_tup{es:List Expr}{k:Nat}{t:TGs}{n:Nat}(hc:X.calm=true)(h:PGs X es t)
  (hn:(assignEach es X.env).length=n:=by rfl) (hst:(assignEach es X.env).findIdx? (·.1)=none:=by rfl):PG X (.Tuple es k pos) (gTup X.K n t):=by
 intro pins s σ H v u Q I r hw
 obtain⟨a,xs,e1,hq,hl,hw⟩:=hw
 subst e1
 cases r
 obtain⟨its,rv,ht,hz⟩:=I.tuple hq
 refine assign_Tuple_tuple (I.ok.hd hc) ht (by simp[hn,← hl,rv.length]) hst fun h' hx=>?_
 have I1:Inv X pins σ H { s with heap:=h' }:=I.kept (t':=s.toks) fun b o e=>hx b o (Nat.ne_of_lt (Heap.lt_size e)) e
 exact h pins _ σ H xs _ Q I1 (by simpa using rv) hw
noncomputable def tAsg(te:TE)(g:TG):TS:=fun D σ H=>te σ H fun x H1=>g x σ H1 D.nx
theorem ps_set{i:Nat}{x:Str}{e:Expr}{te:TE}{pos':Pos}(hN:X.N.Nodup)(hi:X.N[i]?=some x)(hx:Loc X.env.scope x)(he:PE X e te)(hs:swapsWith e (some (.Name x pos')) pos.line X.env=pure false:=by rfl)(hf:X.fn x=true∨X.env.scope.names.lookup x=some .local):
  PS X (.Assign [.Name x pos'] e pos) (tAsg te (gName i)):=by
 intro pins s σ H D I h
 refine wpAny_Assign_Name (thn (he pins s σ H _ I h) fun v s1 ⟨y,H1,I1,r1,q1⟩=>?_) hs
 exact store_ok I1 hN hi hx r1 (fun s2 I2=>⟨_,H1,I2,q1⟩) hf
end
section
variable {X:Cx}{pos:Pos}
end
structure It where
 go:Nat→Hp→Prop
 yld:Nat→Hp→V→Hp→Prop
 stop:Nat→Hp→Prop
def FpOk(X:Cx)(pins:List (Addr×Obj))(H:Hp)(b:Addr):Prop:=
 H b=none∧b≠X.env.locals∧b ∉ X.fs∧(b∈X.ex∨X.s₀.heap.objs.size≤b)∧(∀ x c,X.env.cells.lookup x=some c→c≠b)∧∀ p∈X.pn++pins,p.1≠b
theorem Inv.fpOk{X:Cx}{pins:List (Addr×Obj)}{σ:St}{H H':Hp}{s:Shared}{b:Addr}(I:Inv X pins σ H s)(hb:s.heap.objs.size≤b)(hn:H' b=none):FpOk X pins H' b:=by
 refine⟨hn,Nat.ne_of_gt (Nat.lt_of_lt_of_le I.lt hb),I.nofs hb,.inr (Nat.le_trans I.sz hb),fun x c e z=>?_,fun p hp z=>?_⟩
 ·obtain⟨v,q⟩:=I.cell x c e
  exact absurd (Nat.lt_of_lt_of_le q.lt (by rw[z]; exact hb)) (Nat.lt_irrefl _)
 ·exact absurd (Nat.lt_of_lt_of_le (Heap.lt_size (I.pin p hp).1) (by rw[z]; exact hb)) (Nat.lt_irrefl _)
structure Turn (P:Program) (w:World) (K:PySem.W.Frag) (tg:Expr) (J:It) (fp:List Addr) (it:Addr) (tn:Nat→Heap→Prop):Prop where
 mem:it∈fp
 obj:∀ i h,tn i h→∀ b∈fp,∃ o,h.get? b=some o∧∀ v,o.data≠.cell v
 keep:∀ i h h',tn i h→(∀ b∈fp,∀ o,h.get? b=some o→h'.get? b=some o)→tn i h'
 item:∀ (X:Cx),X.prog=P→X.w=w→X.K=K→X.calm=true→∀ (i:Nat) (pins:List (Addr×Obj)) (s:Shared) (σ:St) (H:Hp) (E:Value→Shared→Prop),Inv X pins σ H s→(∀ b∈fp,FpOk X pins H b)→tn i s.heap→J.go i H→
  wpAny (model P w) X.A (pyNext (.ref it)) (fun r s1=>∃ u,r=some u∧
   wpAny (model P w) X.A (letOwnedTupleGo tg (.ref it) u) (fun _ s2=>∃ x H',Inv X pins σ H' s2∧RelV x u∧J.yld i H x H'∧tn (i+1) s2.heap∧∀ b∈fp,H' b=none) E s1) E s
 done:∀ (X:Cx),X.prog=P→X.w=w→X.K=K→X.calm=true→∀ (i:Nat) (pins:List (Addr×Obj)) (s:Shared) (σ:St) (H:Hp) (E:Value→Shared→Prop),Inv X pins σ H s→(∀ b∈fp,FpOk X pins H b)→tn i s.heap→J.stop i H→
  wpAny (model P w) X.A (pyNext (.ref it)) (fun r s1=>r=none∧Inv X pins σ H s1) E s
 self:∀ (A:Around) (i:Nat) (s:Shared) (Q:Value→Shared→Prop) (E:Value→Shared→Prop),tn i s.heap→Q (.ref it) s→wpAny (model P w) A (pyIter (.ref it)) Q E s
abbrev TI:=St→Hp→(It→Hp→Prop)→Prop
def PIE(X:Cx)(pins:List (Addr×Obj))(σ:St)(tg:Expr)(R:It→Hp→Prop)(itv:Value)(s2:Shared):Prop:=
 ∃ (it:Addr) (fp:List Addr) (tn:Nat→Heap→Prop) (J:It) (H':Hp),itv=.ref it∧Inv X pins σ H' s2∧Turn X.prog X.w X.K tg J fp it tn∧tn 0 s2.heap∧(∀ b∈fp,FpOk X pins H' b)∧R J H'
def PI(X:Cx)(tg iter:Expr)(wi:TI):Prop:=
 ∀ (pins:List (Addr×Obj)) (s:Shared) (σ:St) (H:Hp) (R:It→Hp→Prop),Inv X pins σ H s→wi σ H R→
  wpAny (model X.prog X.w) X.A (eval iter X.env) (fun v s1=>wpAny (model X.prog X.w) X.A (pyIter v) (PIE X pins σ tg R) X.xe s1) X.xe s
theorem go_of{M:Model}{A:Around}{E:Value→Shared→Prop}{s:Shared}{tg:Expr}{it:Addr}{u:Value}{o:Obj}{n:String}{vs:Array Value}{Q:Unit→Shared→Prop}(ho:s.heap.get? it=some o)(hc:o.cls=.type n)(hd:o.data=.fields vs)
  (hn:["enumerate","zip","dict_itemiterator","dict_reverseitemiterator","odict_iterator","itertools.zip_longest","itertools.pairwise"].contains n=false) (hQ:Q () s):wpAny M A (letOwnedTupleGo tg (.ref it) u) Q E s:=by
 unfold letOwnedTupleGo
 cases tg<;>first
  |exact wpAny_pure hQ
  |(cases u<;>first
    |exact wpAny_pure hQ
    |(refine wpAny_bind (wpAny_load ho ?_)
      rw[hc,hd]
      show wpAny M A (if (["enumerate","zip","dict_itemiterator","dict_reverseitemiterator","odict_iterator","itertools.zip_longest","itertools.pairwise"].contains n&&vs[0]?==some (rawInt _))=true then _ else _) Q E s
      rw[if_neg (by intro h; rw[hn,Bool.false_and]at h; cases h)]
      exact wpAny_pure hQ))
noncomputable def Itl(K:PySem.W.Frag)(a:Addr):It:=
 ⟨fun i H=>∃ xs x,SqL K H a xs∧xs[i]?=some x,fun i H x H'=>H'=H∧∀ xs,SqL K H a xs→xs[i]?=some x,fun i H=>∃ xs,SqL K H a xs∧xs.length≤i⟩
noncomputable def Itt(K:PySem.W.Frag)(a:Addr):It:=
 ⟨fun i H=>∃ xs x,SqT K H a xs∧xs[i]?=some x,fun i H x H'=>H'=H∧∀ xs,SqT K H a xs→xs[i]?=some x,fun i H=>∃ xs,SqT K H a xs∧xs.length≤i⟩
noncomputable def Itr(lo:Int)(n:Nat):It:=⟨fun i _=>i<n,fun i H x H'=>H'=H∧x=.int (lo+i),fun i _=>n≤i⟩
theorem turn_list{P:Program}{w:World}{K:PySem.W.Frag}{tg:Expr}(a it:Addr):Turn P w K tg (Itl K a) [it] it (fun i h=>h.IsListIter it a i) where
 mem:=by simp
 obj:=fun i h st b hb=>by
  have e:b=it:=by simpa using hb
  subst e
  obtain⟨o,e,c,d⟩:=st
  exact⟨o,e,fun v z=>by rw[d]at z; cases z⟩
 keep:=fun i h h' st k=>st.at fun o e=>k it (by simp) o e
 item:=by
  intro X hP hw hK hc i pins s σ H E I hf st hg
  subst hP hw hK
  obtain⟨xs,x,hq,hx⟩:=hg
  obtain⟨its,rv,p,hz⟩:=I.list hq
  obtain⟨u,hu,ru⟩:=rv.get hx
  obtain⟨f0,f1,f2,f3,f4,f5⟩:=hf it (by simp)
  refine wpAny_pyNext_list_item st p.isList (x:=u) (by simpa using hu) fun h' st' sb=>?_
  have I1:Inv X pins σ H { s with heap:=h' }:=I.turned (t':=s.toks) (fun b o hb e=>(sb.2 b hb).trans e) f0 f1 f3 f4 f5
  obtain⟨o,e,c,d⟩:=id st'
  exact⟨u,rfl,go_of (s:={ s with heap:=h' }) e c d (by decide) ⟨x,H,I1,ru,⟨rfl,fun ys hy=>by rw[I.list_inj hy hq]; exact hx⟩,st',fun b hb=>(hf b hb).1⟩⟩
 done:=by
  intro X hP hw hK hc i pins s σ H E I hf st hg
  subst hP hw hK
  obtain⟨xs,hq,hx⟩:=hg
  obtain⟨its,rv,p,hz⟩:=I.list hq
  obtain⟨f0,f1,f2,f3,f4,f5⟩:=hf it (by simp)
  have hl:=rv.length
  exact wpAny_pyNext_list_end (I.ok.hd hc) st p.isList (by simp; omega) fun h' eb=>⟨rfl,I.turned (t':=s.toks) (fun b o hb e=>eb b o hb e) f0 f1 f3 f4 f5⟩
 self:=fun _ _ _ _ _ st h=>wpAny_pyIter_listiter st h
theorem turn_tuple{P:Program}{w:World}{K:PySem.W.Frag}{tg:Expr}(a it:Addr):Turn P w K tg (Itt K a) [it] it (fun i h=>h.IsTupleIter it a i) where
 mem:=by simp
 obj:=fun i h st b hb=>by
  have e:b=it:=by simpa using hb
  subst e
  obtain⟨o,e,c,d⟩:=st
  exact⟨o,e,fun v z=>by rw[d]at z; cases z⟩
 keep:=fun i h h' st k=>st.at fun o e=>k it (by simp) o e
 item:=by
  intro X hP hw hK hc i pins s σ H E I hf st hg
  subst hP hw hK
  obtain⟨xs,x,hq,hx⟩:=hg
  obtain⟨its,rv,p,hz⟩:=I.tuple hq
  obtain⟨u,hu,ru⟩:=rv.get hx
  obtain⟨f0,f1,f2,f3,f4,f5⟩:=hf it (by simp)
  refine wpAny_pyNext_tuple_item st (show s.heap.IsTuple a its.toArray from p) (x:=u) (by simpa using hu) fun h' st' sb=>?_
  have I1:Inv X pins σ H { s with heap:=h' }:=I.turned (t':=s.toks) (fun b o hb e=>(sb.2 b hb).trans e) f0 f1 f3 f4 f5
  obtain⟨o,e,c,d⟩:=id st'
  exact⟨u,rfl,go_of (s:={ s with heap:=h' }) e c d (by decide) ⟨x,H,I1,ru,⟨rfl,fun ys hy=>by rw[I.tuple_inj hy hq]; exact hx⟩,st',fun b hb=>(hf b hb).1⟩⟩
 done:=by
  intro X hP hw hK hc i pins s σ H E I hf st hg
  subst hP hw hK
  obtain⟨xs,hq,hx⟩:=hg
  obtain⟨its,rv,p,hz⟩:=I.tuple hq
  obtain⟨f0,f1,f2,f3,f4,f5⟩:=hf it (by simp)
  have hl:=rv.length
  exact wpAny_pyNext_tuple_end (I.ok.hd hc) st (show s.heap.IsTuple a its.toArray from p) (by simp; omega) fun h' eb=>⟨rfl,I.turned (t':=s.toks) (fun b o hb e=>eb b o hb e) f0 f1 f3 f4 f5⟩
 self:=fun _ _ _ _ _ st h=>wpAny_pyIter_tupleiter st h
theorem turn_range{P:Program}{w:World}{K:PySem.W.Frag}{tg:Expr}(it:Addr)(lo:Int)(n:Nat):Turn P w K tg (Itr lo n) [it] it (fun i h=>IsRangeIter h it (lo+(i:Nat)*1) ((n:Int) - (i:Nat)) 1) where
 mem:=by simp
 obj:=fun i h st b hb=>by
  have e:b=it:=by simpa using hb
  subst e
  exact⟨_,st,fun v z=>by
   have z':Data.fields _=Data.cell v:=z
   cases z'⟩
 keep:=fun i h h' st k=>k it (by simp) _ st
 item:=by
  intro X hP hw hK hc i pins s σ H E I hf st hg
  subst hP hw hK
  obtain⟨f0,f1,f2,f3,f4,f5⟩:=hf it (by simp)
  have W:=Walks.range (prog:=X.prog) (w:=X.w) (I.ok.hd hc) it lo 1 n
  refine W.item i s _ _ hg st fun v h' tk hv st' kk=>?_
  obtain⟨t,rfl⟩:=hv
  have I1:Inv X pins σ H { s with heap:=h',toks:=tk }:=I.turned (fun b o hb e=>kk b o (by simpa using hb) e) f0 f1 f3 f4 f5
  refine⟨_,rfl,go_of (s:={ s with heap:=h',toks:=tk }) (n:="range_iterator") st' rfl rfl (by decide) ⟨.int (lo+i),H,I1,⟨t,?_⟩,⟨rfl,rfl⟩,st',fun b hb=>(hf b hb).1⟩⟩
  rw[Int.mul_one]
 done:=by
  intro X hP hw hK hc i pins s σ H E I hf st hg
  subst hP hw hK
  obtain⟨f0,f1,f2,f3,f4,f5⟩:=hf it (by simp)
  exact wpAny_pyNext_range_end (I.ok.hd hc) st (by have:n≤i:=hg; omega) fun h' eb=>⟨rfl,I.turned (t':=s.toks) (fun b o hb e=>eb b o hb e) f0 f1 f3 f4 f5⟩
 self:=fun _ _ _ _ _ st h=>wpAny_pyIter_rangeiter st h
end L2
namespace L2
open PySem PySem.Spec PyProof.Rows
section
variable {X:Cx}{tg:Expr}
theorem range_it{pins:List (Addr×Obj)}{σ:St}{H:Hp}{s:Shared}{R:It→Hp→Prop}{E:Value→Shared→Prop}{lo hi:Int}{t u v:Tok}{tk:Nat}(I:Inv X pins σ H s)(h1:-(2 ^ 62)≤lo)(h2:lo<2 ^ 62)(h3:-(2 ^ 62)≤hi)(h4:hi<2 ^ 62)
  (q:R (Itr lo (hi - lo).toNat) H):wpAny (model X.prog X.w) X.A (pyIter (.ref s.heap.objs.size)) (PIE X pins σ tg R) E { s with heap:=s.heap.push { cls:=.type "range",data:=.fields #[.int lo t,.int hi u,.int 1 v] },toks:=tk }:=by
 refine wpAny_pyIter_range (IsRange.new ..) (small_one h1 h2 h3 h4) ?_
 have I1:Inv X pins σ H { s with heap:=s.heap.push { cls:=.type "range",data:=.fields #[.int lo t,.int hi u,.int 1 v] },toks:=tk }:=I.kept fun b o e=>Heap.get?_push_of_some _ e
 refine⟨(s.heap.push { cls:=.type "range",data:=.fields #[.int lo t,.int hi u,.int 1 v] }).objs.size,[(s.heap.push { cls:=.type "range",data:=.fields #[.int lo t,.int hi u,.int 1 v] }).objs.size],_,_,H,rfl,
  I1.kept (t':=tk) fun b o e=>Heap.get?_push_of_some _ e,turn_range _ lo (hi - lo).toNat,?_,fun b hb=>?_,q⟩
 ·have e1:lo+((0:Nat):Int)*1=lo:=by simp
  have e2:(((hi - lo).toNat:Nat):Int) - ((0:Nat):Int)=Builtin.Range.rangeSize lo hi 1:=by rw[rangeSize_one]; split<;>omega
  show IsRangeIter _ _ (lo+((0:Nat):Int)*1) ((((hi - lo).toNat:Nat):Int) - ((0:Nat):Int)) 1
  rw[e1,e2]
  exact Heap.get?_push_size _ rfl
 ·have e:b=(s.heap.push { cls:=.type "range",data:=.fields #[.int lo t,.int hi u,.int 1 v] }).objs.size:=by simpa using hb
  subst e
  exact I1.fpOk (Nat.le_refl _) (I1.hok.fresh (Nat.le_refl _))
noncomputable def iRng1(ta:TA):TI:=fun σ H R=>ta σ H fun vs H1=>∃ j:Int,vs=[.int j]∧-(2 ^ 62)≤j∧j<2 ^ 62∧R (Itr 0 j.toNat) H1
theorem pi_range1{a:Expr}{ta:TA}{p pos:Pos}(hg:Gl X "range")(hm:X.mg "range" = none)(ha:PA X [a] ta)(hs:starEach [a] X.env=[(false,eval a X.env)]:=by rfl):PI X tg (.Call (.Name "range" p) [a] [] pos) (iRng1 ta):=by
 intro pins s σ H R I h
 refine Call_ (ld_blt I hg hm boot_range (PyProof.Rows.callWith_type1 (thn (ha pos pins s σ H _ I h) fun us s1 ⟨vs,H1,I1,r1,q1⟩=>?_) hs rfl))
 obtain⟨j,e,q1,q2,q⟩:=q1
 subst e
 cases r1 with
 |cons r rr=>
  cases rr
  obtain⟨t,rfl⟩:=r
  exact call_range_1 (range_it I1 (by omega) (by omega) q1 q2 (by simpa using q))
noncomputable def tFor(wi:TI)(g:TG)(tb:TS):TS:=fun D σ H=>wi σ H fun J H1=>∃ W:Nat→Nat→St→Hp→Prop,(∃ m,W 0 m σ H1)∧∀ i m σ H,W i m σ H→
 (J.stop i H∧D.nx σ H)∨(J.go i H∧∃ N:St→Hp→Prop,(∀ σ' H',N σ' H'→∃ m',m'<m∧W (i+1) m' σ' H')∧∀ x H',J.yld i H x H'→g x σ H' fun σ2 H2=>tb { D with nx:=N,ct:=N,bk:=D.nx } σ2 H2)
noncomputable def pinsAt(fp:List Addr)(h:Heap):List (Addr×Obj):=fp.filterMap fun b=>(h.get? b).map fun o=>(b,o)
theorem mem_pinsAt{fp:List Addr}{h:Heap}{b:Addr}{o:Obj}(hb:b∈fp)(e:h.get? b=some o):(b,o)∈pinsAt fp h:=List.mem_filterMap.mpr ⟨b,hb,by rw[e]; rfl⟩
theorem of_pinsAt{fp:List Addr}{h:Heap}{p:Addr×Obj}(hp:p∈pinsAt fp h):p.1∈fp∧h.get? p.1=some p.2:=by
 obtain⟨b,hb,e⟩:=List.mem_filterMap.mp hp
 cases q:h.get? b with
 |none=>rw[q]at e; cases e
 |some o=>
  rw[q]at e
  have e':(b,o)=p:=Option.some.inj e
  subst e'
  exact⟨hb,q⟩
theorem Inv.pinned{pins:List (Addr×Obj)}{σ:St}{H:Hp}{s:Shared}{fp:List Addr}(I:Inv X pins σ H s)(hf:∀ b∈fp,FpOk X pins H b)(ho:∀ b∈fp,∃ o,s.heap.get? b=some o∧∀ v,o.data≠.cell v):Inv X (pins++pinsAt fp s.heap) σ H s:=
 I.pins_of fun p hp=>(List.mem_append.mp hp).elim (fun z=>I.pin p (List.mem_append_right _ z)) fun z=>by
  obtain⟨hb,e⟩:=of_pinsAt z
  obtain⟨f0,f1,f2,_⟩:=hf p.1 hb
  obtain⟨o,e',d⟩:=ho p.1 hb
  rw[e]at e'; cases e'
  exact⟨e,f0,f1,f2,d⟩
theorem Inv.unpinned{pins pl:List (Addr×Obj)}{σ:St}{H:Hp}{s:Shared}(I:Inv X (pins++pl) σ H s):Inv X pins σ H s:=I.pins_of fun p hp=>I.pin p (List.mem_append_right _ (List.mem_append_left _ hp))
theorem ps_for{iter:Expr}{body:List Stmt}{wi:TI}{g:TG}{tb:TS}{pos:Pos}(hp:PassesOwn (model X.prog X.w) X.A X.env X.xe)(hc:X.calm=true)(hi:PI X tg iter wi)(hg:PG X tg g)(hb:PSs X body tb)
  (hs:∀ x,foldedSetIterable iter X.env x=pure x):PS X (.For tg iter body [] pos) (tFor wi g tb):=by
 intro pins s σ H D I h
 refine wpAny_For (thn (hi pins s σ H _ I h) fun v s1 h1=>thn h1 fun itv s2 h2=>?_) hs
 obtain⟨it,fp,tn,J,H2,e,I2,T,st2,f2,W,⟨m0,w0⟩,turn⟩:=h2
 subst e
 have stat:∀ {H':Hp},(∀ b∈fp,H' b=none)→∀ b∈fp,FpOk X pins H' b:=fun hn b hb=>⟨hn b hb,(f2 b hb).2⟩
 refine codeAny_forLoop_any (fun n s'=>∃ i σ' H',Inv X pins σ' H' s'∧tn i s'.heap∧(∀ b∈fp,H' b=none)∧W i n σ' H') ?_ m0 ⟨0,σ,H2,I2,st2,fun b hb=>(f2 b hb).1,w0⟩
 rintro n s3 ⟨i,σ3,H3,I3,st3,fr3,w3⟩
 rcases turn i n σ3 H3 w3 with⟨stop,qn⟩|⟨go,N,hN,step⟩
 ·refine wpAny_passesOwn hp (thn (T.done X rfl rfl rfl hc i pins s3 σ3 H3 X.xe I3 (stat fr3) st3 stop) fun r s4 ⟨hr,I4⟩=>?_)
  subst hr
  exact wpAny_execs_nil ⟨σ3,H3,I4,qn⟩
 ·refine wpAny_passesOwn hp (thn (T.item X rfl rfl rfl hc i pins s3 σ3 H3 X.xe I3 (stat fr3) st3 go) fun r s4 ⟨u,hr,h4⟩=>?_)
  subst hr
  refine wpAny_passesOwn hp (thn h4 fun _ s5 ⟨x,H5,I5,r5,y5,st5,fr5⟩=>?_)
  have I5':=I5.pinned (stat fr5) (T.obj _ _ st5)
  refine wpAny_passesOwn hp (thn (hg _ s5 σ3 H5 x u _ I5' r5 (step x H5 y5)) fun _ s6 ⟨σ6,H6,I6,q6⟩=>?_)
  refine wpAny_passesOwn hp (thn (hb _ s6 σ6 H6 _ I6 q6) fun f s7 q7=>?_)
  have again:∀ {σ7:St}{H7:Hp},Inv X (pins++pinsAt fp s5.heap) σ7 H7 s7→N σ7 H7→∃ m,m<n∧∃ i σ' H',Inv X pins σ' H' s7∧tn i s7.heap∧(∀ b∈fp,H' b=none)∧W i m σ' H':=fun {σ7 H7} I7 n7=>by
   obtain⟨m',hm,w7⟩:=hN σ7 H7 n7
   refine⟨m',hm,i+1,σ7,H7,I7.unpinned,T.keep _ _ _ st5 fun b hb o e=>(I7.pin (b,o) (List.mem_append_right _ (List.mem_append_right _ (mem_pinsAt hb e)))).1,fun b hb=>?_,w7⟩
   obtain⟨o,e,d⟩:=T.obj _ _ st5 b hb
   exact(I7.pin (b,o) (List.mem_append_right _ (List.mem_append_right _ (mem_pinsAt hb e)))).2.1
  cases f with
  |next=>obtain⟨σ7,H7,I7,n7⟩:=q7; exact again I7 n7
  |cont=>obtain⟨σ7,H7,I7,n7⟩:=q7; exact again I7 n7
  |brk=>obtain⟨σ7,H7,I7,q7⟩:=q7; exact⟨σ7,H7,I7.unpinned,q7⟩
  |ret v=>obtain⟨x7,σ7,H7,I7,r7,q7⟩:=q7; exact⟨x7,σ7,H7,I7.unpinned,r7,q7⟩
end
end L2
namespace L2
open PySem PySem.Spec PyProof.Rows
abbrev R2:=V→V→Hp→VK→Prop
def OpR(X:Cx)(f:Value→Value→Sem Value)(r:R2):Prop:=
 ∀ (pins:List (Addr×Obj)) (s:Shared) (σ:St) (H:Hp) (x y:V) (v u:Value) (Q:VK),Inv X pins σ H s→RelV x v→RelV y u→r x y H Q→
  wpAny (model X.prog X.w) X.A (f v u) (EP X pins σ Q) X.xe s
def UnR(X:Cx)(f:Value→Sem Value)(r:V→Hp→VK→Prop):Prop:=
 ∀ (pins:List (Addr×Obj)) (s:Shared) (σ:St) (H:Hp) (x:V) (v:Value) (Q:VK),Inv X pins σ H s→RelV x v→r x H Q→
  wpAny (model X.prog X.w) X.A (f v) (EP X pins σ Q) X.xe s
def CallR(X:Cx)(f:Value)(r:List V→Hp→VK→Prop):Prop:=
 ∀ (pins:List (Addr×Obj)) (s:Shared) (σ:St) (H:Hp) (xs:List V) (us:List Value) (Q:VK),Inv X pins σ H s→Vals xs us→r xs H Q→
  wpAny (model X.prog X.w) X.A (call f us) (EP X pins σ Q) X.xe s
def TruR(X:Cx)(r:V→Hp→(Bool→Hp→Prop)→Prop):Prop:=
 ∀ (pins:List (Addr×Obj)) (s:Shared) (σ:St) (H:Hp) (x:V) (v:Value) (Q:Bool→Hp→Prop),Inv X pins σ H s→RelV x v→r x H Q→
  wpAny (model X.prog X.w) X.A (truthy v) (TP X pins σ Q) X.xe s
noncomputable def tOp(r:R2)(ta tb:TE):TE:=fun σ H Q=>ta σ H fun x H1=>tb σ H1 fun y H2=>r x y H2 Q
noncomputable def tUn(r:V→Hp→VK→Prop)(ta:TE):TE:=fun σ H Q=>ta σ H fun x H1=>r x H1 Q
noncomputable def rI(C:Int→Int→Prop)(g:Int→Int→V):R2:=fun x y H Q=>∃ i j,x=.int i∧y=.int j∧C i j∧Q (g i j) H
noncomputable def rI0(g:Int→Int→V):R2:=fun x y H Q=>∃ i j,x=.int i∧y=.int j∧Q (g i j) H
def rU(g:Int→V):V→Hp→VK→Prop:=fun x H Q=>∃ i,x=.int i∧Q (g i) H
section
variable {X:Cx}{a b c:Expr}{ta tb tc:TE}{pos:Pos}
theorem binT(ha:PE X a ta)(hb:PE X b tb){pins:List (Addr×Obj)}{s:Shared}{σ:St}{H:Hp}{R:V→V→Hp→Prop}(I:Inv X pins σ H s)
  (h:ta σ H fun x H1=>tb σ H1 fun y H2=>R x y H2){Q:Value→Shared→Prop}{f:Value→Value→Sem Value}
  (hf:∀ v u s2 x y H2,Inv X pins σ H2 s2→RelV x v→RelV y u→R x y H2→wpAny (model X.prog X.w) X.A (f v u) Q X.xe s2) :
  wpAny (model X.prog X.w) X.A (eval a X.env) (fun v s₁=>wpAny (model X.prog X.w) X.A (eval b X.env) (fun u s₂=>wpAny (model X.prog X.w) X.A (f v u) Q X.xe s₂) X.xe s₁) X.xe s:=by
 refine thn (ha pins s σ H _ I h) fun v s1 ⟨x,H1,I1,r1,q1⟩=>?_
 refine thn (hb pins s1 σ H1 _ I1 q1) fun u s2 ⟨y,H2,I2,r2,q2⟩=>?_
 exact hf v u s2 x y H2 I2 r1 r2 q2
theorem pe_op{op:Operator}{r:R2}(ho:OpR X (binaryOp op) r)(ha:PE X a ta)(hb:PE X b tb):PE X (.BinOp a op b pos) (tOp r ta tb):=by
 intro pins s σ H Q I h
 exact wpAny_BinOp (binT ha hb I h fun v u s2 x y H2 I2 rx ry q=>ho pins s2 σ H2 x y v u Q I2 rx ry q)
theorem pe_un{op:UnaryOp}{r:V→Hp→VK→Prop}(ho:UnR X (unaryOp op) r)(ha:PE X a ta):PE X (.UnaryOp op a pos) (tUn r ta):=by
 intro pins s σ H Q I h
 exact UnaryOp_ (thn (ha pins s σ H _ I h) fun v s1 ⟨x,H1,I1,r1,q1⟩=>ho pins s1 σ H1 x v Q I1 r1 q1)
theorem opI{f:Value→Value→Sem Value}{C:Int→Int→Prop}{g:Int→Int→Int}
  (rule:∀ (i j:Int) (t u:Tok) (s:Shared) (Q:Value→Shared→Prop) (E:Value→Shared→Prop),C i j→Q (.int (g i j) s.toks) { s with toks:=s.toks+1 }→wpAny (model X.prog X.w) X.A (f (.int i t) (.int j u)) Q E s) :
  OpR X f (rI C fun i j=>.int (g i j)):=by
 intro pins s σ H x y v u Q I rx ry h
 obtain⟨i,j,rfl,rfl,hc,q⟩:=h
 obtain⟨t,rfl⟩:=rx
 obtain⟨t',rfl⟩:=ry
 exact rule i j t t' s _ _ hc ⟨.int (g i j),H,I.tok _,⟨_,rfl⟩,q⟩
theorem opI0{f:Value→Value→Sem Value}{g:Int→Int→Int}
  (rule:∀ (i j:Int) (t u:Tok) (s:Shared) (Q:Value→Shared→Prop) (E:Value→Shared→Prop),Q (.int (g i j) s.toks) { s with toks:=s.toks+1 }→wpAny (model X.prog X.w) X.A (f (.int i t) (.int j u)) Q E s) :
  OpR X f (rI0 fun i j=>.int (g i j)):=by
 intro pins s σ H x y v u Q I rx ry h
 obtain⟨i,j,rfl,rfl,q⟩:=h
 obtain⟨t,rfl⟩:=rx
 obtain⟨t',rfl⟩:=ry
 exact rule i j t t' s _ _ ⟨.int (g i j),H,I.tok _,⟨_,rfl⟩,q⟩
theorem opB0{f:Value→Value→Sem Value}{g:Int→Int→Bool}
  (rule:∀ (i j:Int) (t u:Tok) (s:Shared) (Q:Value→Shared→Prop) (E:Value→Shared→Prop),Q (.bool (g i j)) s→wpAny (model X.prog X.w) X.A (f (.int i t) (.int j u)) Q E s) :
  OpR X f (rI0 fun i j=>.bl (g i j)):=by
 intro pins s σ H x y v u Q I rx ry h
 obtain⟨i,j,rfl,rfl,q⟩:=h
 obtain⟨t,rfl⟩:=rx
 obtain⟨t',rfl⟩:=ry
 exact rule i j t t' s _ _ ⟨.bl (g i j),H,I,rfl,q⟩
def CPow(i j:Int):Prop:=0≤j∧j≤1000000∧i.natAbs<2 ^ 64
def CMul(i j:Int):Prop:=(-(2 ^ 64)<i∧i<2 ^ 64)∨(-(2 ^ 64)<j∧j<2 ^ 64)
theorem CMul.ok{i j:Int}(h:CMul i j):IntMulOk i j:=by
 rcases h with⟨h1,h2⟩|⟨h1,h2⟩
 ·exact .of_left (intBits_le_64 h1 h2)
 ·exact .of_right (intBits_le_64 h1 h2)
theorem op_add:OpR X (binaryOp .Add) (rI0 fun i j=>.int (i+j)):=opI0 fun _ _ _ _ _ _ _ q=>add_int q
theorem op_sub:OpR X (binaryOp .Sub) (rI0 fun i j=>.int (i - j)):=opI0 fun _ _ _ _ _ _ _ q=>sub_int q
theorem op_mul:OpR X (binaryOp .Mult) (rI CMul fun i j=>.int (i*j)):=opI fun _ _ _ _ _ _ _ hc q=>mul_int q hc.ok
theorem op_mod:OpR X (binaryOp .Mod) (rI (fun _ j=>0<j) fun i j=>.int (i % j)):=opI fun i j _ _ _ _ _ hc q=>by
 have h1:(0:Int)<j:=hc
 exact mod_int' (by omega) (by rw[Int.fmod_eq_emod_of_nonneg i (by omega)]; exact q)
theorem op_pow:OpR X (binaryOp .Pow) (rI CPow fun i j=>.int (i ^ j.toNat)):=opI fun _ _ _ _ _ _ _ hc q=>pow_int_small hc.1 hc.2.1 hc.2.2 q
theorem unI{f:Value→Sem Value}{g:Int→Int}
  (rule:∀ (i:Int) (t:Tok) (s:Shared) (Q:Value→Shared→Prop) (E:Value→Shared→Prop),Q (.int (g i) s.toks) { s with toks:=s.toks+1 }→wpAny (model X.prog X.w) X.A (f (.int i t)) Q E s) :
  UnR X f (rU fun i=>.int (g i)):=by
 intro pins s σ H x v Q I rx h
 obtain⟨i,rfl,q⟩:=h
 obtain⟨t,rfl⟩:=rx
 exact rule i t s _ _ ⟨.int (g i),H,I.tok _,⟨_,rfl⟩,q⟩
theorem un_neg:UnR X (unaryOp .USub) (rU fun i=>.int (-i)):=unI fun _ _ _ _ _ q=>neg_int q
end
section
variable {X:Cx}{a b c:Expr}{ta tb tc:TE}{pos:Pos}
theorem fin_bl{pins:List (Addr×Obj)}{σ:St}{H:Hp}{s:Shared}{Q:VK}{k k':Bool}(I:Inv X pins σ H s)(q:Q (.bl k) H)(e:k=k'):EP X pins σ Q (.bool k') s:=by
 subst e
 exact⟨.bl k,H,I,rfl,q⟩
theorem op_lt:OpR X (compareOp .Lt) (rI0 fun i j=>.bl (decide (i<j))):=opB0 fun _ _ _ _ _ _ _ q=>lt_int q
theorem op_le:OpR X (compareOp .LtE) (rI0 fun i j=>.bl (decide (i≤j))):=opB0 fun _ _ _ _ _ _ _ q=>le_int q
theorem op_gt:OpR X (compareOp .Gt) (rI0 fun i j=>.bl (decide (j<i))):=opB0 fun _ _ _ _ _ _ _ q=>gt_int q
theorem op_ge:OpR X (compareOp .GtE) (rI0 fun i j=>.bl (decide (j≤i))):=opB0 fun _ _ _ _ _ _ _ q=>ge_int q
theorem op_in_str:OpR X (compareOp .In) (fun x y H Q=>∃ i j,x=.str i∧y=.str j∧Q (.bl (!(Builtin.Str.occurrences j i 0 j.length 1).isEmpty)) H):=by
 intro pins s σ H x y v u Q I rx ry h
 obtain⟨i,j,rfl,rfl,q⟩:=h
 obtain⟨t,rfl⟩:=rx
 obtain⟨t',rfl⟩:=ry
 exact in_str (fin_bl I q rfl)
theorem op_isN:OpR X (compareOp .Is) (fun x y H Q=>y=.non∧Q (.bl (decide (x=.non))) H):=by
 intro pins s σ H x y v u Q I rx ry h
 obtain⟨rfl,q⟩:=h
 cases ry
 refine is_none_gen (fin_bl I q ?_)
 cases x<;>first
  |(cases rx; rfl)
  |(obtain⟨t,rfl⟩:=rx; rfl)
theorem op_notN:OpR X (compareOp .IsNot) (fun x y H Q=>y=.non∧Q (.bl (!decide (x=.non))) H):=by
 intro pins s σ H x y v u Q I rx ry h
 obtain⟨rfl,q⟩:=h
 cases ry
 refine isnot_none_gen (fin_bl I q ?_)
 cases x<;>first
  |(cases rx; rfl)
  |(obtain⟨t,rfl⟩:=rx; rfl)
theorem op_notin_str:OpR X (compareOp .NotIn) (fun x y H Q=>∃ i j,x=.str i∧y=.str j∧Q (.bl (!(!(Builtin.Str.occurrences j i 0 j.length 1).isEmpty))) H):=by
 intro pins s σ H x y v u Q I rx ry h
 obtain⟨i,j,rfl,rfl,q⟩:=h
 obtain⟨t,rfl⟩:=rx
 obtain⟨t',rfl⟩:=ry
 exact notIn_str (fin_bl I q rfl)
theorem OpR.or{f:Value→Value→Sem Value}{r r':R2}(h:OpR X f r)(h':OpR X f r'):OpR X f (fun x y H Q=>r x y H Q∨r' x y H Q):=by
 intro pins s σ H x y v u Q I rx ry q
 rcases q with q|q
 ·exact h pins s σ H x y v u Q I rx ry q
 ·exact h' pins s σ H x y v u Q I rx ry q
theorem pe_cmpR{op:CmpOp}{r:R2}(ho:OpR X (compareOp op) r)(ha:PE X a ta)(hb:PE X b tb)(hm:behindInMarks op b=false):PE X (.Compare a [op] [b] pos) (tOp r ta tb):=by
 intro pins s σ H Q I h
 exact wpAny_Compare1 (binT ha hb I h fun v u s2 x y H2 I2 rx ry q=>ho pins s2 σ H2 x y v u Q I2 rx ry q) hm
noncomputable def tTest(t:TE):TT:=fun σ H Q=>t σ H fun x H'=>∃ k,x=.bl k∧Q k H'
theorem pt_cmpR{op:CmpOp}{r:R2}(ho:OpR X (compareOp op) r)(ha:PE X a ta)(hb:PE X b tb)(hm:behindInMarks op b=false):PT X (.Compare a [op] [b] pos) (tTest (tOp r ta tb)):=by
 intro pins s σ H Q I h
 refine wpAny_isTrue_Compare1 (thn (ha pins s σ H _ I h) fun v s1 ⟨x,H1,I1,r1,q1⟩=>thn (hb pins s1 σ H1 _ I1 q1) fun u s2 ⟨y,H2,I2,r2,q2⟩=>
  thn (ho pins s2 σ H2 x y v u _ I2 r1 r2 q2) fun c s3 ⟨z,H3,I3,r3,k,e,q3⟩=>?_) hm
 subst e
 cases r3
 exact wpAny_truthy_bool ⟨H3,I3,q3⟩
noncomputable def tChain(r r':R2)(ta tb tc:TE):TE:=fun σ H Q=>ta σ H fun x H1=>tb σ H1 fun y H2=>r x y H2 fun z H3=>∃ k,z=.bl k∧
 (if k=true then tc σ H3 fun w' H4=>r' y w' H4 Q else Q (.bl false) H3)
theorem pe_chain{op op':CmpOp}{r r':R2}(ho:OpR X (compareOp op) r)(ho':OpR X (compareOp op') r')(ha:PE X a ta)(hb:PE X b tb)(hc:PE X c tc)
  (hm:lastMarks [op,op'] [b,c]=false):PE X (.Compare a [op,op'] [b,c] pos) (tChain r r' ta tb tc):=by
 intro pins s σ H Q I h
 refine Compare_chain (thn (ha pins s σ H _ I h) fun v s1 ⟨x,H1,I1,r1,q1⟩=>chain_link (thn (hb pins s1 σ H1 _ I1 q1) fun u s2 ⟨y,H2,I2,r2,q2⟩=>
  thn (ho pins s2 σ H2 x y v u _ I2 r1 r2 q2) fun d s3 ⟨z,H3,I3,r3,k,e,q3⟩=>?_)) hm
 subst e
 cases r3
 refine wpAny_truthy_bool ?_
 cases k with
 |false=>exact ite_ff ⟨.bl false,H3,I3,rfl,q3⟩
 |true=>exact ite_tt (chain_last (thn (hc pins s3 σ H3 _ I3 q3) fun w' s4 ⟨z',H4,I4,r4,q4⟩=>ho' pins s4 σ H4 y z' u w' Q I4 r2 r4 q4))
theorem pt_chain{op op':CmpOp}{r r':R2}(ho:OpR X (compareOp op) r)(ho':OpR X (compareOp op') r')(ha:PE X a ta)(hb:PE X b tb)(hc:PE X c tc)
  (hm:lastMarks [op,op'] [b,c]=false):PT X (.Compare a [op,op'] [b,c] pos) (tTest (tChain r r' ta tb tc)):=by
 intro pins s σ H Q I h
 refine isTrue_chain (thn (ha pins s σ H _ I h) fun v s1 ⟨x,H1,I1,r1,q1⟩=>test_link (thn (hb pins s1 σ H1 _ I1 q1) fun u s2 ⟨y,H2,I2,r2,q2⟩=>
  thn (ho pins s2 σ H2 x y v u _ I2 r1 r2 q2) fun d s3 ⟨z,H3,I3,r3,k,e,q3⟩=>?_)) hm
 subst e
 cases r3
 refine wpAny_truthy_bool ?_
 cases k with
 |false=>
  obtain⟨k',e',q'⟩:=q3
  cases e'
  exact ite_ff ⟨H3,I3,q'⟩
 |true=>
  refine ite_tt (test_last (thn (hc pins s3 σ H3 _ I3 q3) fun w' s4 ⟨z',H4,I4,r4,q4⟩=>thn (ho' pins s4 σ H4 y z' u w' _ I4 r2 r4 q4) fun d' s5 ⟨z2,H5,I5,r5,k2,e2,q5⟩=>?_))
  subst e2
  cases r5
  exact wpAny_truthy_bool ⟨H5,I5,q5⟩
def TruV(K:PySem.W.Frag)(x:V)(H:Hp)(k:Bool):Prop:=
 match x with
 |.non=>k=false
 |.bl b=>k=b
 |.int i=>k=(i != 0)
 |.str y=>y.length≤sizeLine∧k=((y.length:Int) != 0)
 |.byt y=>y.size≤sizeLine∧k=((y.size:Int) != 0)
 |.ref p=>(∃ xs,SqL K H p xs∧k = !xs.isEmpty)∨(∃ xs,SqT K H p xs∧k = !xs.isEmpty)∨∃ kvs,H p=some (.dK kvs)∧k = !kvs.isEmpty
 |_=>False
theorem isEmpty_kv{κ:Type}{kvs:List (κ×V)}{vs:List (κ×Value)}(r:KV kvs vs):(!vs.isEmpty) = !kvs.isEmpty:=by
 cases r<;>rfl
theorem isEmpty_of{xs:List V}{its:List Value}(r:Vals xs its):(!its.toArray.isEmpty) = !xs.isEmpty:=by
 cases r<;>simp
theorem line63:(sizeLine:Nat)<2 ^ 63:=by rw[sizeLine_eq]; decide
theorem tru_ok:TruR X (fun x H Q=>∃ k,TruV X.K x H k∧Q k H):=by
 intro pins s σ H x v Q I rx h
 obtain⟨k,e,q⟩:=h
 have hl:=line63
 have hs:sizeLine=16777216:=sizeLine_eq
 cases x with
 |non=>
  cases rx
  have e':k=false:=e
  subst e'
  exact truthy_none ⟨H,I,q⟩
 |bl b=>
  cases rx
  have e':k=b:=e
  subst e'
  exact wpAny_truthy_bool ⟨H,I,q⟩
 |int i=>
  obtain⟨t,rfl⟩:=rx
  have e':k=(i != 0):=e
  subst e'
  exact PySem.P.truthy_int ⟨H,I,q⟩
 |str y=>
  obtain⟨t,rfl⟩:=rx
  obtain⟨hy,e'⟩:y.length≤sizeLine∧k=((y.length:Int) != 0):=e
  subst e'
  exact PySem.P.truthy_str (by omega) ⟨H,I.tok _,q⟩
 |byt y=>
  obtain⟨t,rfl⟩:=rx
  obtain⟨hy,e'⟩:y.size≤sizeLine∧k=((y.size:Int) != 0):=e
  subst e'
  exact PySem.W.truthy_bytes (by omega) ⟨H,I.tok _,q⟩
 |ref p=>
  cases rx
  have e':(∃ xs,SqL X.K H p xs∧k = !xs.isEmpty)∨(∃ xs,SqT X.K H p xs∧k = !xs.isEmpty)∨∃ kvs,H p=some (.dK kvs)∧k = !kvs.isEmpty:=e
  rcases e' with⟨xs,hx,e'⟩|⟨xs,hx,e'⟩|⟨kvs,hx,e'⟩
  ·subst e'
   obtain⟨its,r,pl,hz⟩:=I.list hx
   have hlen:=r.length
   exact wpAny_truthy_list pl.isList (by simp only[List.size_toArray]; omega) ⟨H,I.tok _,by rw[isEmpty_of r]; exact q⟩
  ·subst e'
   obtain⟨its,r,pl,hz⟩:=I.tuple hx
   have hlen:=r.length
   exact truthy_tuple pl (by simp only[List.size_toArray]; omega) ⟨H,I.tok _,by rw[isEmpty_of r]; exact q⟩
  ·subst e'
   obtain⟨hz,hS,vs,r,m⟩:kvs.length≤sizeLine∧(p==sysModules)=false∧∃ vs,KV kvs vs∧s.heap.DictOf (mixKind X.prog X.w) p vs:=I.hok p _ hx
   have hlen:kvs.length=vs.length:=Paired.length r
   exact wpAny_truthy_dict hS m (by omega) ⟨H,I.tok _,by rw[isEmpty_kv r]; exact q⟩
 |_=>exact(show False from e).elim
theorem pt_truth(ha:PE X a ta)(he:∀ whole,isTrue a X.env whole=(do let v ← whole; standAt a.pos; holding [v] (truthy v))):
  PT X a (fun σ H Q=>ta σ H fun x H'=>∃ k,TruV X.K x H' k∧Q k H'):=by
 intro pins s σ H Q I h
 exact isTrue_plain (thn (ha pins s σ H _ I h) fun v s1 ⟨x,H1,I1,r1,q1⟩=>tru_ok pins s1 σ H1 x v Q I1 r1 q1) (he _)
theorem op_add_str:OpR X (binaryOp .Add) (fun x y H Q=>∃ i j,x=.str i∧y=.str j∧i.length+j.length≤sizeLine∧Q (.str (i++j)) H):=by
 intro pins s σ H x y v u Q I rx ry h
 obtain⟨i,j,rfl,rfl,hz,q⟩:=h
 obtain⟨t,rfl⟩:=rx
 obtain⟨t',rfl⟩:=ry
 exact add_str (fun t' tk=>⟨.str (i++j),H,I.tok _,⟨_,rfl⟩,q⟩) hz
theorem vals1{x:V}{us:List Value}(r:Vals [x] us):∃ u,us=[u]∧RelV x u:=by
 cases r with
 |cons r1 r2=>cases r2; exact⟨_,rfl,r1⟩
theorem vals2{x y:V}{us:List Value}(r:Vals [x,y] us):∃ u w',us=[u,w']∧RelV x u∧RelV y w':=by
 cases r with
 |cons r1 r2=>
  cases r2 with
  |cons r3 r4=>cases r4; exact⟨_,_,rfl,r1,r3⟩
theorem call_max2(hc:X.calm=true):CallR X (.builtin "max") (fun xs H Q=>∃ i j,xs=[.int i,.int j]∧Q (.int (if j > i then j else i)) H):=by
 intro pins s σ H xs us Q I r h
 obtain⟨i,j,rfl,q⟩:=h
 obtain⟨u,w',rfl,⟨t,rfl⟩,⟨t',rfl⟩⟩:=vals2 r
 refine max_two_ints (I.ok.hd hc) fun h' tk k=>⟨_,H,I.kept k,?_,q⟩
 by_cases hj:j > i
 ·rw[if_pos hj,if_pos hj]; exact⟨_,rfl⟩
 ·rw[if_neg hj,if_neg hj]; exact⟨_,rfl⟩
theorem call_min2(hc:X.calm=true):CallR X (.builtin "min") (fun xs H Q=>∃ i j,xs=[.int i,.int j]∧Q (.int (if j<i then j else i)) H):=by
 intro pins s σ H xs us Q I r h
 obtain⟨i,j,rfl,q⟩:=h
 obtain⟨u,w',rfl,⟨t,rfl⟩,⟨t',rfl⟩⟩:=vals2 r
 refine min_two_ints (I.ok.hd hc) fun h' tk k=>⟨_,H,I.kept k,?_,q⟩
 by_cases hj:j<i
 ·rw[if_pos hj,if_pos hj]; exact⟨_,rfl⟩
 ·rw[if_neg hj,if_neg hj]; exact⟨_,rfl⟩
theorem call_int1:CallR X (.type "int") (fun xs H Q=>(∃ i,xs=[.int i]∧Q (.int i) H)∨∃ k,xs=[.bl k]∧Q (.int (if k then 1 else 0)) H):=by
 intro pins s σ H xs us Q I r h
 rcases h with⟨i,rfl,q⟩|⟨k,rfl,q⟩
 ·obtain⟨u,rfl,t,rfl⟩:=vals1 r
  exact call_int_int ⟨.int i,H,I,⟨_,rfl⟩,q⟩
 ·obtain⟨u,rfl,r1⟩:=vals1 r
  cases r1
  exact call_int_bool ⟨.int (if k then 1 else 0),H,I.tok _,⟨_,rfl⟩,q⟩
theorem call_str_int:CallR X (.type "str") (fun xs H Q=>∃ i,xs=[.int i]∧i.natAbs.log2<1920∧Q (.str (toString i)) H):=by
 intro pins s σ H xs us Q I r h
 obtain⟨i,rfl,hz,q⟩:=h
 obtain⟨u,rfl,t,rfl⟩:=vals1 r
 exact PySem.P.str_of_int hz ⟨.str _,H,I.tok _,⟨_,rfl⟩,q⟩
end
end L2
namespace L2
open PySem PySem.Spec PyProof.Rows
structure ObjM (h:Heap) (x dx C:Addr) (mA:Str→Option Value):Prop where
 obj:h.get? x=some (PySem.W.instObj C dx)
 ns:h.Ns1 dx mA
 ne:dx≠x
section
variable {prog:Program}{w:World}{A:Around}{E:Value→Shared→Prop}{s:Shared}{K:PySem.W.Frag}{x dx C f:Addr}{mA:Str→Option Value}{name:Str}{v:Value}
end
theorem RelO.some_of{v:V}{o:Option Value}(r:RelO (some v) o):∃ u,o=some u∧RelV v u:=by
 cases o with
 |none=>exact(show False from r).elim
 |some u=>exact⟨u,rfl,r⟩
section
variable {P:Program}{w:World}{H H':Hp}{h h':Heap}{a C dx:Addr}{fs fs':List (Str×V)}
theorem ins_get(hok:HOk P w H h)(e:H a=some (.ins C dx fs)):∃ mA,ObjM h a dx C mA∧(∀ f,RelO (fs.lookup f) (mA f))∧PySem.Within mA (fs.map (·.1))∧fs.length≤1000∧H dx=some (.own a):=by
 obtain⟨d,z,ne,ob,mA,n,r,q⟩:=(show ObjOk P w H h a (.ins C dx fs) from hok a _ e)
 exact⟨mA,⟨ob,n,ne⟩,r,q,z,d⟩
end
structure Cls (K:PySem.W.Frag) (C:Addr):Prop where
 pg:PySem.W.plainGet K C Str.empty=true
 hd:PySem.W.hasDictIn K C=true
 po:PySem.W.plainOver K C=true
 sa:PySem.W.findIn K (.ref C) "__setattr__" = some (some (.builtin "object.__setattr__"))
theorem Cls.get{K:PySem.W.Frag}{C:Addr}(c:Cls K C)(f:Str):PySem.W.plainGet K C f=true:=c.pg
structure Con (K:PySem.W.Frag) (C:Addr) (f:Str) (v:V) (u:Value):Prop where
 at_:PySem.W.findIn K (.ref C) f=some (some u)
 rel:RelV v u
 get:PySem.W.specialIn K u "__get__" = some none
 cp:PySem.W.copiedNames.contains f=false
structure Meth (K:PySem.W.Frag) (C:Addr) (m:Str) (f:Addr):Prop where
 at_:PySem.W.findIn K (.ref C) m=some (some (.ref f))
 fn:PySem.W.isFn K (.ref f)=true
 kp:PySem.W.keepIn K (.ref f)=true
section
variable {X:Cx}{pins:List (Addr×Obj)}{σ:St}{H:Hp}{s:Shared}{a C dx:Addr}{fs:List (Str×V)}{f:Str}{v:V}{A:Around}{E:Value→Shared→Prop}
theorem Inv.made(I:Inv X pins σ H s):Inv X pins σ (upd (upd H s.heap.objs.size (.own (s.heap.objs.size+1))) (s.heap.objs.size+1) (.ins C s.heap.objs.size []))
  { s with heap:=(s.heap.push PySem.W.emptyDict).push (PySem.W.instObj C s.heap.objs.size) }:=by
 have e1:(s.heap.push PySem.W.emptyDict).get? s.heap.objs.size=some PySem.W.emptyDict:=Heap.get?_push_size s.heap rfl
 have e2:((s.heap.push PySem.W.emptyDict).push (PySem.W.instObj C s.heap.objs.size)).get? (s.heap.objs.size+1)=some (PySem.W.instObj C s.heap.objs.size):=by
  have:=Heap.get?_push_size (s.heap.push PySem.W.emptyDict) (o:=PySem.W.instObj C s.heap.objs.size) rfl
  rwa [Heap.size_push]at this
 have e3:(s.heap.push PySem.W.emptyDict).Ns s.heap.objs.size (fun _=>none):=⟨PySem.W.emptyDict,#[],_,e1,rfl,(fun e he=>absurd he (by simp)),fun _=>rfl⟩
 have I1:=I.laid (a:=s.heap.objs.size) (o:=.own (s.heap.objs.size+1)) (h':=s.heap.push PySem.W.emptyDict) (t':=s.toks) (fun b u q=>Heap.get?_push_of_some _ q) (Nat.le_refl _) ⟨_,e1⟩
 refine I1.laid (a:=s.heap.objs.size+1) (o:=.ins C s.heap.objs.size []) (t':=s.toks) (fun b u q=>Heap.get?_push_of_some _ q) (Nat.le_of_eq (Heap.size_push _ _)) ?_
 have ne:s.heap.objs.size≠s.heap.objs.size+1:=Nat.ne_of_lt (Nat.lt_succ_self _)
 refine⟨by rw[upd_ne ne,upd_same],Nat.zero_le _,ne,e2,fun _=>none,(Heap.Ns1.of_empty e3).at fun o q=>Heap.get?_push_of_some _ q,fun _=>True.intro,fun y hy=>absurd rfl hy⟩
end
section
variable {X:Cx}{o e value:Expr}{f:Str}{pos pos' tpos:Pos}{ta tv:TE}
end
section
variable {X:Cx}{pins:List (Addr×Obj)}{σ:St}{H:Hp}{s:Shared}{A:Around}{E:Value→Shared→Prop}{Q:Value→Shared→Prop}{c:Value}{b:Bool}
inductive TyOf (K:PySem.W.Frag) (H:Hp):V→Value→Prop where
 |non:TyOf K H .non (.type "NoneType")
 |bl (x:Bool):TyOf K H (.bl x) (.type "bool")
 |int (i:Int):TyOf K H (.int i) (.type "int")
 |str (x:Str):TyOf K H (.str x) (.type "str")
 |flt (x:UInt64):TyOf K H (.flt x) (.type "float")
 |lst {a:Addr}{xs:List V}(e:H a=some (.lst xs)):TyOf K H (.ref a) (.type "list")
 |frz {a:Addr}{o:Obj}{xs:List V}(e:H a=some (.frz o (.lst xs))):TyOf K H (.ref a) (.type "list")
 |tup {a:Addr}{xs:List V}(e:H a=some (.tup xs)):TyOf K H (.ref a) (.type "tuple")
 |dK {a:Addr}{kvs:List (Key×V)}(e:H a=some (.dK kvs)):TyOf K H (.ref a) (.type "dict")
 |dT {a:Addr}{kvs:List (List Key×V)}(e:H a=some (.dT kvs)):TyOf K H (.ref a) (.type "dict")
 |ins {a C dx:Addr}{fs:List (Str×V)}(e:H a=some (.ins C dx fs)) (cl:Cls K C) (ha:PySem.W.findIn K (.ref C) "__class__" = some (some (.builtin "object.__class__")))
   (hn:PySem.W.specialIn K (.builtin "object.__class__") "__get__" = some (some (.builtin "getset_descriptor.__get__"))) (htk:PySem.W.takesIn K (.builtin "object.__class__")=some true)
   (hm:PySem.W.mroIn K C (.type "object")=some true):TyOf K H (.ref a) (.ref C)
end
end L2
namespace L2
open PySem PySem.Spec PyProof.Rows
structure Room (k:Nat) (A:Around):Prop where
 hd:A.handled=none
 dp:A.depth+3*k+5<recursionLimit
 un:A.units+16*k+200<cLine
theorem Room.mono{j k:Nat}{A:Around}(r:Room k A)(h:j≤k):Room j A:=⟨r.hd,by have:=r.dp; omega,by have:=r.un; omega⟩
theorem Room.deeper{k:Nat}{A:Around}(r:Room (k+1) A)(env:Env):Room k (A.deeper env):=
 ⟨r.hd,by have:=r.dp; show A.depth+1+3*k+5<_; omega,by have:=r.un; show A.units+3+16*k+200<_; omega⟩
theorem Room.in1{k:Nat}{A:Around}(r:Room (k+1) A):Room k A.in1:=
 ⟨r.hd,by have:=r.dp; show A.depth+3*k+5<_; omega,by have:=r.un; show A.units+1+16*k+200<_; omega⟩
theorem Room.depth{k:Nat}{A:Around}(r:Room k A):A.depth<recursionLimit:=by have:=r.dp; omega
theorem Room.units{k:Nat}{A:Around}(r:Room k A):A.units+64<cLine:=by have:=r.un; omega
noncomputable def tNil:TA:=fun _ H Q=>Q [] H
noncomputable def tCons(ta:TE)(tr:TA):TA:=fun σ H Q=>ta σ H fun x H1=>tr σ H1 fun xs H2=>Q (x::xs) H2
section
variable {X:Cx}{e:Expr}{es:List Expr}{te:TE}{t:TA}{pos:Pos}
theorem pa_nil:PA X [] tNil:=fun _ _ _ _ H Q I h=>Calls.spliced_nil ⟨[],H,I,.nil,h⟩
theorem pa_cons(ha:PE X e te)(hr:PA X es t)(hs:starEach (e::es) X.env=(false,eval e X.env)::starEach es X.env:=by rfl):PA X (e::es) (tCons te t):=by
 intro pos pins s σ H Q I h
 rw[hs]
 show wpAny _ _ (spliced ((false,eval e X.env)::backTo pos (starEach es X.env))) _ _ s
 refine Calls.spliced_cons (thn (ha pins s σ H _ I h) fun u s1 ⟨x,H1,I1,r1,q1⟩=>?_)
 exact thn (hr pos pins s1 σ H1 _ I1 q1) fun us s2 ⟨xs,H2,I2,r2,q2⟩=>⟨x::xs,H2,I2,.cons r1 r2,q2⟩
noncomputable def tTup(t:TA):TE:=fun σ H Q=>t σ H fun xs H1=>xs.length≤sizeLine∧∀ p,H1 p=none→Q (.ref p) (upd H1 p (.tup xs))
noncomputable def tLst(t:TA):TE:=fun σ H Q=>t σ H fun xs H1=>xs.length≤sizeLine∧∀ p,H1 p=none→Q (.ref p) (upd H1 p (.lst xs))
theorem pe_tup{x1}(h:PA X es t):PE X (.Tuple es x1 pos) (tTup t):=by
 intro pins s σ H Q I hq
 refine wpAny_Tuple_spliced (thn (h pos pins s σ H _ I hq) fun us s1 ⟨xs,H1,I1,r,z,q⟩=>⟨by rw[← r.length]; exact z,?_⟩)
 have hf:H1 s1.heap.objs.size=none:=I1.hok.fresh (Nat.le_refl _)
 refine⟨.ref s1.heap.objs.size,upd H1 s1.heap.objs.size (.tup xs),I1.laid (t':=s1.toks) (fun b u e=>Heap.get?_push_of_some _ e) (Nat.le_refl _) ?_,rfl,q _ hf⟩
 exact⟨z,us,r,⟨_,Heap.get?_push_size _ rfl,rfl,_,rfl⟩⟩
theorem pe_lst(h:PA X es t):PE X (.List es pos) (tLst t):=by
 intro pins s σ H Q I hq
 refine wpAny_List_spliced (thn (h pos pins s σ H _ I hq) fun us s1 ⟨xs,H1,I1,r,z,q⟩=>⟨by rw[← r.length]; exact z,?_⟩)
 have hf:H1 s1.heap.objs.size=none:=I1.hok.fresh (Nat.le_refl _)
 refine⟨.ref s1.heap.objs.size,upd H1 s1.heap.objs.size (.lst xs),I1.laid (t':=s1.toks) (fun b u e=>Heap.get?_push_of_some _ e) (Nat.le_refl _) ?_,rfl,q _ hf⟩
 exact⟨z,us,0,r,Heap.get?_push_size _ rfl⟩
end
abbrev Sp:=List V→Hp→VK→XK→Prop
abbrev CXT:=List Env→Hp→Shared→XK→Value→Shared→Prop
structure Env0 (P:Program) (w:World) (K:PySem.W.Frag) (mg:Str→Option Value) (base:Heap) (A:Around) (outer:List Env) (s:Shared) (H:Hp):Prop where
 frames:A.frames=some outer
 mod:Mod K mg base
 bs:∀ b o,base.get? b=some o→s.heap.get? b=some o∧H b=none
 bsz:base.objs.size≤s.heap.objs.size
 funs:s.heap.FunFrames base outer
 frf:∀ b∈frs outer,H b=none
 hok:HOk P w H s.heap
 bare:AllBare s.gens
def CE(outer:List Env)(P:Program)(w:World)(H:Hp)(s:Shared)(Q:VK)(u:Value)(s':Shared):Prop:=
 ∃ v H',s'.os=s.os∧AllBare s'.gens∧Un (frs outer) [] H H' s.heap s'.heap∧HOk P w H' s'.heap∧RelV v u∧Q v H'
def CR(CX:CXT)(outer:List Env)(P:Program)(w:World)(H:Hp)(s:Shared)(Q:VK)(E:XK)(r:Result)(s':Shared):Prop:=
 match r with
 |.ok (.ret u)=>CE outer P w H s Q u s'
 |.ok _=>False
 |.error e=>CX outer H s E e s'
structure FnOk (P:Program) (w:World) (K:PySem.W.Frag) (mg:Str→Option Value) (base:Heap) (CX:CXT) (k:Nat) (f:Addr) (fd:FuncData) (ps:List Str) (sp:Sp):Prop where
 len:∀ vs H Q E,sp vs H Q E→vs.length=ps.length
 run:∀ (A:Around) (outer:List Env) (s:Shared) (H:Hp) (args:Args) (us:List Value) (vs:List V) (Q:VK) (E:XK),Room k A→Env0 P w K mg base A outer s H→BindsTo s fd args (ps.zip us)→Vals vs us→sp vs H Q E→
  codeAny (model P w) A (.call (.ref f) args) (CR CX outer P w H s Q E) s
theorem FnOk.mono{P:Program}{w:World}{K:PySem.W.Frag}{mg:Str→Option Value}{base:Heap}{CX:CXT}{j k:Nat}{f:Addr}{fd:FuncData}{ps:List Str}{sp:Sp}(F:FnOk P w K mg base CX j f fd ps sp)(h:j≤k):
  FnOk P w K mg base CX k f fd ps sp:=⟨F.len,fun A outer s H args us vs Q E hr=>F.run A outer s H args us vs Q E (hr.mono h)⟩
theorem FnOk.imp{P:Program}{w:World}{K:PySem.W.Frag}{mg:Str→Option Value}{base:Heap}{CX:CXT}{k:Nat}{f:Addr}{fd:FuncData}{ps:List Str}{sp sp':Sp}(F:FnOk P w K mg base CX k f fd ps sp)
  (h:∀ vs H Q E,sp' vs H Q E→sp vs H Q E):FnOk P w K mg base CX k f fd ps sp':=
 ⟨fun vs H Q E q=>F.len vs H Q E (h _ _ _ _ q),fun A outer s H args us vs Q E hr he hb hv hs=>F.run A outer s H args us vs Q E hr he hb hv (h _ _ _ _ hs)⟩
theorem Env0.in1{P:Program}{w:World}{K:PySem.W.Frag}{mg:Str→Option Value}{base:Heap}{A:Around}{outer:List Env}{s:Shared}{H:Hp}(e:Env0 P w K mg base A outer s H):
  Env0 P w K mg base A.in1 outer s H:=⟨e.frames,e.mod,e.bs,e.bsz,e.funs,e.frf,e.hok,e.bare⟩
section
variable {X:Cx}{pins:List (Addr×Obj)}{σ:St}{H:Hp}{s s':Shared}
theorem Inv.env0(I:Inv X pins σ H s):Env0 X.prog X.w X.K X.mg X.base X.A X.stack s H:=
 ⟨I.ok.frames,I.ok.mod,I.bs,Nat.le_trans I.ok.bsz I.sz,I.stack,I.stkFree,I.hok,I.bare⟩
theorem Inv.after{Q:VK}{u:Value}(I:Inv X pins σ H s)(h:CE X.stack X.prog X.w H s Q u s'):EP X pins σ Q u s':=by
 obtain⟨v,H',os,bare,un,hok,r,q⟩:=h
 obtain⟨hh,g,d,t,os'⟩:=s'
 obtain rfl:os'=s.os:=os
 exact⟨v,H',I.call (h':=hh) (g':=g) (d':=d) (t':=t) (ch:=[]) un hok bare (fun b z=>absurd z (by simp)),r,q⟩
end
noncomputable def tCall(sp:Sp)(dvs:List V)(E:XK)(t:TA):TE:=fun σ H Q=>t σ H fun vs H1=>sp (vs++dvs) H1 Q E
def Binds(K:PySem.W.Frag)(fd:FuncData)(ps:List Str)(ds:List Value):Prop:=
 ∀ (s:Shared) (us:List Value),K.In s.heap→(us++ds).length=ps.length→BindsTo s fd ⟨us,[]⟩ (ps.zip (us++ds))
theorem Binds.all{K:PySem.W.Frag}{fd:FuncData}{ps:List Str}(h:∀ us:List Value,us.length=ps.length→bindArgs fd ⟨us,[]⟩=pure (ps.zip us)):Binds K fd ps []:=fun s us _ hl=>by
 rw[List.append_nil]at hl ⊢
 exact .of_eq (h us hl)
def Passes(CX:CXT)(X:Cx)(E:XK):Prop:=∀ (pins:List (Addr×Obj)) (σ:St) (H:Hp) (s:Shared) (e:Value) (s':Shared),Inv X pins σ H s→CX X.stack H s E e s'→X.xe e s'
section
variable {X:Cx}{CX:CXT}{k:Nat}{f C:Addr}{fd:FuncData}{ps:List Str}{sp:Sp}{dvs:List V}{ds:List Value}{E:XK}{x m:Str}{p pos apos:Pos}{e o:Expr}{es:List Expr}{ta:TE}{t:TA}
theorem run_fn{pins:List (Addr×Obj)}{σ:St}{H:Hp}{s:Shared}{Q:VK}{us:List Value}{vs:List V}(F:FnOk X.prog X.w X.K X.mg X.base CX k f fd ps sp)(hr:Room k X.A)(hb:Binds X.K fd ps ds)(hd:Vals dvs ds)(hx:Passes CX X E)
  (I:Inv X pins σ H s) (r:Vals vs us) (h:sp (vs++dvs) H Q E):wpAny (model X.prog X.w) X.A (call (.ref f) us) (EP X pins σ Q) X.xe s:=by
 have r2:Vals (vs++dvs) (us++ds):=r.append hd
 have hl:(us++ds).length=ps.length:=by rw[← r2.length]; exact F.len _ _ _ _ h
 refine wpAny_call (codeAny_mono (F.run X.A X.stack s H ⟨us,[]⟩ (us++ds) (vs++dvs) Q E hr I.env0 (hb s us I.kIn hl) r2 h) fun r s' hq=>?_)
 cases r with
 |error e=>exact hx pins σ H s e s' I hq
 |ok fl=>
  cases fl with
  |ret u=>exact I.after hq
  |next=>exact False.elim hq
  |brk=>exact False.elim hq
  |cont=>exact False.elim hq
theorem pe_call(F:FnOk X.prog X.w X.K X.mg X.base CX k f fd ps sp)(hr:Room k X.A)(hg:Gl X x)(hm:X.mg x=some (.ref f))(hk:PySem.W.keepIn X.K (.ref f)=true)(hb:Binds X.K fd ps ds)(hd:Vals dvs ds)(hx:Passes CX X E)
  (ha:PA X (e::es) t) (hdb:(x==("__debug__" : Str))=false:=by decide) (he:starEach (e::es) X.env=(false,eval e X.env)::starEach es X.env:=by rfl) (hpl:(backTo pos (starEach es X.env)).any (·.1)=false:=by rfl) :
  PE X (.Call (.Name x p) (e::es) [] pos) (tCall sp dvs E t):=by
 intro pins s σ H Q I h
 refine wpAny_Call_Name_kw (ld_glob I hg hm ?_ hdb)
 refine PySem.W.callWith_K (h₀:=X.base) I.ok.mod.kin hk (thn (ha pos pins s σ H _ I h) fun us s1 ⟨vs,H1,I1,r,q⟩=>⟨I1.kIn,?_⟩) he hpl
 exact run_fn F hr hb hd hx I1 r q
structure Mk (K:PySem.W.Frag) (C f:Addr):Prop where
 makes:PySem.W.makesIn K C=true
 init:PySem.W.findIn K (.ref C) "__init__" = some (some (.ref f))
 fn:PySem.W.isFn K (.ref f)=true
 kp:PySem.W.keepIn K (.ref C)=true
end
section
variable {X:Cx}{CX:CXT}{k:Nat}{f C:Addr}{fd:FuncData}{ps ks:List Str}{sp:Sp}{E:XK}{x m:Str}{p pos apos kpos:Pos}{e o:Expr}{es:List Expr}{kws:List Keyword}{te ta:TE}{t tk:TA}{nm:Option Str}
structure KBinds (K:PySem.W.Frag) (fd:FuncData) (ps ks:List Str) (g:List Value→List Value→List Value) (gV:List V→List V→List V):Prop where
 to:∀ (s:Shared) (us ws:List Value),K.In s.heap→(g us ws).length=ps.length→BindsTo s fd ⟨us,ks.zip ws⟩ (ps.zip (g us ws))
 rel:∀ {vs:List V}{us:List Value}{zs:List V}{ws:List Value},Vals vs us→Vals zs ws→Vals (gV vs zs) (g us ws)
variable {g:List Value→List Value→List Value}{gV:List V→List V→List V}
end
structure FnScope (N P:List Str) (sc:Scope):Prop where
 kind:sc.kind=.function
 co:sc.isCoroutine=false
 gen:sc.isGenerator=false
 nd:N.Nodup
 pre:N.take P.length=P
 par:∀ x∈P,sc.names.lookup x=some .local∨sc.names.lookup x=some .cell
 nofree:∀ y∈sc.names,y.2≠.free
theorem bindL_out{kindOf:Str→Option NameKind}{x:Str}:∀ {binds:List (Str×Value)}{m:Str→Option Value},(∀ v,(x,v) ∉ binds)→bindL kindOf binds m x=m x
 |[],_,_=>rfl
 |(n,v)::r,m,h=>by
  unfold bindL
  rw[bindL_out fun w hw=>h w (List.mem_cons_of_mem _ hw)]
  split
  ·have:x≠n:=by rintro rfl; exact h v List.mem_cons_self
   simp[this]
  ·rfl
theorem bindC_out{kindOf:Str→Option NameKind}{x:Str}:∀ {binds:List (Str×Value)}{m:Str→Option Value},(∀ v,(x,v) ∉ binds)→bindC kindOf binds m x=m x
 |[],_,_=>rfl
 |(n,v)::r,m,h=>by
  unfold bindC
  rw[bindC_out fun w hw=>h w (List.mem_cons_of_mem _ hw)]
  split
  ·rfl
  ·have:x≠n:=by rintro rfl; exact h v List.mem_cons_self
   simp[this]
theorem bindL_get{kindOf:Str→Option NameKind}{x:Str}{v:Value}:∀ {P:List Str}{vs:List Value}{i:Nat}{m:Str→Option Value},P.Nodup→P[i]?=some x→vs[i]?=some v→kindOf x=some .local→
  bindL kindOf (P.zip vs) m x=some v
 |[],_,_,_,_,h,_,_=>by simp at h
 |_::_,[],_,_,_,_,h,_=>by simp at h
 |p::P,w::vs,0,m,nd,h1,h2,hk=>by
  simp at h1 h2; subst h1; subst h2
  show bindL kindOf ((p,w)::P.zip vs) m p=_
  unfold bindL
  rw[bindL_out fun v hv=>(List.nodup_cons.mp nd).1 (List.of_mem_zip hv).1,if_pos hk]
  simp
 |p::P,w::vs,i+1,m,nd,h1,h2,hk=>by
  show bindL kindOf ((p,w)::P.zip vs) m x=_
  unfold bindL
  exact bindL_get (i:=i) (List.nodup_cons.mp nd).2 (by simpa using h1) (by simpa using h2) hk
theorem bindC_get{kindOf:Str→Option NameKind}{x:Str}{v:Value}:∀ {P:List Str}{vs:List Value}{i:Nat}{m:Str→Option Value},P.Nodup→P[i]?=some x→vs[i]?=some v→kindOf x≠some .local→
  bindC kindOf (P.zip vs) m x=some v
 |[],_,_,_,_,h,_,_=>by simp at h
 |_::_,[],_,_,_,_,h,_=>by simp at h
 |p::P,w::vs,0,m,nd,h1,h2,hk=>by
  simp at h1 h2; subst h1; subst h2
  show bindC kindOf ((p,w)::P.zip vs) m p=_
  unfold bindC
  rw[bindC_out fun v hv=>(List.nodup_cons.mp nd).1 (List.of_mem_zip hv).1,if_neg hk]
  simp
 |p::P,w::vs,i+1,m,nd,h1,h2,hk=>by
  show bindC kindOf ((p,w)::P.zip vs) m x=_
  unfold bindC
  exact bindC_get (i:=i) (List.nodup_cons.mp nd).2 (by simpa using h1) (by simpa using h2) hk
noncomputable def start(N:List Str)(vs:List V):St:=vs.map some++List.replicate (N.length - vs.length) none
noncomputable def cxOf(CX:CXT)(P:Program)(w:World)(K:PySem.W.Frag)(mg:Str→Option Value)(base:Heap)(N:List Str)(qual:Str)(scope:Scope)(f:Addr)(cd:Value)(A:Around)(outer:List Env)(s:Shared)(H:Hp)(E:XK):Cx where
 prog:=P
 w:=w
 K:=K
 mg:=mg
 base:=base
 A:=A.deeper (envOfC qual scope s.heap.objs.size f cd)
 N:=N
 s₀:=s
 H₀:=H
 env:=envOfC qual scope s.heap.objs.size f cd
 outer:=outer
 stack:=envOfC qual scope s.heap.objs.size f cd::outer
 ex:=[]
 calm:=true
 fn:=fun _=>true
 pn:=[]
 xe:=fun e s'=>wpAny (model P w) (A.deeper (envOfC qual scope s.heap.objs.size f cd)) (leaving (envOfC qual scope s.heap.objs.size f cd) e) (fun _ s''=>CX outer H s E e s'') (fun e' s''=>CX outer H s E e' s'') s'
theorem cell_has{sc:Scope}{n:Nat}{x:Str}(h:sc.names.lookup x=some .cell):∃ c,(cellsFrom n sc.names []).lookup x=some c:=by
 have q:=PySem.W.cellsFrom_some sc.names n [] (.inl h)
 exact Option.isSome_iff_exists.mp q
theorem inv_start{CX:CXT}{P:Program}{w:World}{K:PySem.W.Frag}{mg:Str→Option Value}{base:Heap}{N ps:List Str}{qual:Str}{scope:Scope}{f:Addr}{cd:Value}{A:Around}{outer:List Env}{s s1:Shared}{H:Hp}{E:XK}{us:List Value}{vs:List V}
  (S:FnScope N ps scope) (hd:A.handled=none) (e0:Env0 P w K mg base A outer s H) (hl:vs.length=ps.length) (r:Vals vs us)
  (x:InCallC s s.heap.objs.size (bindL (envOfC qual scope s.heap.objs.size f cd).kindOf (ps.zip us) fun _=>none) (cellsFrom (s.heap.objs.size+1) scope.names []) (bindC (envOfC qual scope s.heap.objs.size f cd).kindOf (ps.zip us) fun _=>none) s1) :
  Inv (cxOf CX P w K mg base N qual scope f cd A outer s H E) [] (start N vs) H s1:=by
 have hpl:ps.length≤N.length:=by have:=congrArg List.length S.pre; rw[List.length_take]at this; omega
 obtain⟨h1,tk,rfl,hk⟩:=x.done
 have noA:∀ b:Addr,b ∉ (cxOf CX P w K mg base N qual scope f cd A outer s H E).ex:=fun b z=>absurd (show b∈([]:List Addr) from z) (by simp)
 refine⟨⟨e0.mod,S.kind,rfl,rfl,Nat.le_refl _,fun y z c h1 h2=>?_,fun y hy=>?_,fun y c _ h=>?_,fun _=>hd,Around.frames_deeper e0.frames,.inr ⟨rfl,rfl⟩,fun b z=>absurd z (noA b),e0.bs,e0.bsz,fun b _ _=>noA b,fun b z=>absurd z (noA b),e0.funs,e0.frf⟩,
  rfl,e0.bare,Un.kept hk,⟨_,x.toInCall.ns,fun i y v h1 h2 h3=>?_⟩,fun y c h=>⟨_,x.cell y c h⟩,e0.hok.fresh (Nat.le_refl _),fun y c h=>?_,fun p hp=>absurd (show p∈([]:List (Addr×Obj)) from hp) (by simp),e0.hok.kept hk,?_⟩
 ·exact name_of_addr x.apart (PySem.mem_of_lookup h1) (PySem.mem_of_lookup h2)
 ·have hy:scope.names.lookup y=some .cell∨scope.names.lookup y=some .free:=hy
  rcases hy with hy|hy
  ·exact cell_has hy
  ·exact absurd rfl (S.nofree _ (PySem.mem_of_lookup hy))
 ·exact Nat.le_of_lt (x.above y c (PySem.mem_of_lookup h))
 ·have hi:i<vs.length:=by
   unfold start at h2
   by_cases hi:i<vs.length
   ·exact hi
   ·rw[List.getElem?_append_right (by simpa using hi)]at h2
    rw[List.getElem?_replicate]at h2
    split at h2<;>cases h2
  have ha:vs[i]?=some v:=by
   unfold start at h2
   rw[List.getElem?_append_left (by simpa using hi),List.getElem?_map]at h2
   cases e:vs[i]? with
   |none=>rw[e]at h2; cases h2
   |some a=>rw[e]at h2; cases h2; rfl
  obtain⟨u,hu,rv⟩:=r.get ha
  have hp:ps[i]?=some y:=by
   rw[← S.pre,List.getElem?_take_of_lt (by omega)]; exact h1
  have ndP:ps.Nodup:=by rw[← S.pre]; exact S.nd.sublist (List.take_sublist _ _)
  refine⟨u,rv,?_⟩
  rcases S.par y (List.mem_of_getElem? hp) with k|k
  ·exact .inl ⟨k,bindL_get ndP hp hu k⟩
  ·obtain⟨c,e⟩:=cell_has (n:=s.heap.objs.size+1) k
   refine .inr ⟨.inl k,c,e,?_⟩
   have q:=x.cell y c e
   rw[bindC_get ndP hp hu (by show scope.names.lookup y≠_; rw[k]; decide)]at q
   exact q
 ·exact e0.hok.fresh (Nat.le_of_lt (x.above y c (PySem.mem_of_lookup h)))
 ·unfold start
  show _=N.length
  rw[List.length_append,List.length_map,List.length_replicate]
  omega
theorem fn_of{CX:CXT}{P:Program}{w:World}{K:PySem.W.Frag}{mg:Str→Option Value}{base:Heap}{k:Nat}{f:Addr}{name qual:Str}{params:Arguments}{body:List Stmt}{scope:Scope}{dV kV doc pm cdv ct oc:Value}{an od:Option Addr}
  {osl:Array (Option Value)}{N ps:List Str}{sp:Sp}(lk:K.lookup f=some ⟨oc,od,.func (PySem.W.fnOf name qual params body scope dV kV doc pm an cdv ct),osl⟩) (hcd:PySem.W.codeIn K cdv qual=true) (S:FnScope N ps scope)
  (len:∀ vs H Q E,sp vs H Q E→vs.length=ps.length)
  (hbody:∀ (A:Around) (outer:List Env) (s:Shared) (H:Hp) (vs:List V) (Q:VK) (E:XK),Room k (A.deeper (envOfC qual scope s.heap.objs.size f cdv))→sp vs H Q E→
   ∃ t,PSs (cxOf CX P w K mg base N qual scope f cdv A outer s H E) body t∧t { nx:=fun _ H'=>Q .non H',rt:=Q } (start N vs) H) :
  FnOk P w K mg base CX (k+1) f (PySem.W.fnOf name qual params body scope dV kV doc pm an cdv ct) ps sp:=by
 refine⟨len,fun A outer s H args us vs Q E hr e0 hb r hsp=>?_⟩
 have hl:=len _ _ _ _ hsp
 have KX:K.In s.heap:=e0.mod.kin.keeps fun b o e=>(e0.bs b o e).1
 have lim:s.heap.NoLimit:=e0.mod.nolimit.keeps fun b o e=>(e0.bs b o e).1
 have hkind:∀ y∈ps.zip us,scope.names.lookup y.1=some .local∨(scope.names.lookup y.1=some .cell∧((cellsFrom (s.heap.objs.size+1) scope.names []).lookup y.1).isSome=true):=fun ⟨n,v⟩ hy=>by
  rcases S.par n (List.of_mem_zip hy).1 with q|q
  ·exact .inl q
  ·exact .inr ⟨q,PySem.W.cellsFrom_some _ _ _ (.inl q)⟩
 refine codeAny_call_function hr.depth (KX _ _ lk) rfl S.co S.gen rfl (PySem.W.codeRec_of KX hcd) (hb _ _ _ _ ?_)
 refine wpAny_newFunctionEnv_cells S.kind hkind fun env he s1 x=>?_
 subst he
 refine⟨lim.keeps x.toInCall.keep,codeAny_func ?_⟩
 obtain⟨t,ht,hq⟩:=hbody A outer s H vs Q E (hr.deeper _) hsp
 have I:Inv (cxOf CX P w K mg base N qual scope f cdv A outer s H E) [] (start N vs) H s1:=inv_start S hr.hd e0 hl r x
 refine wpAny_mono (ht [] s1 (start N vs) H _ I hq) (fun fl s' hs=>?_) fun e s' hs=>hs
 have fin:∀ {σ':St}{H':Hp}{v:V}{u:Value},Inv (cxOf CX P w K mg base N qual scope f cdv A outer s H E) [] σ' H' s'→RelV v u→Q v H'→CE outer P w H s Q u s':=
  fun {σ' H' v u} J rv q=>⟨v,H',J.os,J.bare,J.base,J.hok,rv,q⟩
 cases fl with
 |ret u=>
  obtain⟨v,σ',H',J,rv,q⟩:=hs
  exact fin J rv q
 |next=>
  obtain⟨σ',H',J,q⟩:=hs
  exact fin (v:=V.non) (u:=Value.none) J rfl q
 |brk=>
  obtain⟨_,_,_,q⟩:=hs
  exact False.elim q
 |cont=>
  obtain⟨_,_,_,q⟩:=hs
  exact False.elim q
end L2
namespace L2
open PySem PySem.Spec PyProof.Rows
section
variable {X:Cx}{x:Str}{p pos:Pos}{e:Expr}{es:List Expr}{t:TA}{id T:String}{r:List V→Hp→VK→Prop}
noncomputable def tCB(r:List V→Hp→VK→Prop)(t:TA):TE:=fun σ H Q=>t σ H fun vs H1=>r vs H1 Q
theorem pe_callB(hc:CallR X (.builtin id) r)(hg:Gl X x)(hm:X.mg x=none)(hv:bootBuiltins x=some (.builtin id))(ha:PA X (e::es) t)(hn:x ≠ "__name__":=by decide)(hdb:(x==("__debug__" : Str))=false:=by decide)
  (he:starEach (e::es) X.env=(false,eval e X.env)::starEach es X.env:=by rfl) (hpl:(backTo pos (starEach es X.env)).any (·.1)=false:=by rfl):PE X (.Call (.Name x p) (e::es) [] pos) (tCB r t):=by
 intro pins s σ H Q I h
 refine wpAny_Call_Name_kw (ld_blt I hg hm hv ?_ hn hdb)
 exact PyProof.Rows.callWith_builtin1 (thn (ha pos pins s σ H _ I h) fun us s1 ⟨vs,H1,I1,r1,q1⟩=>hc pins s1 σ H1 vs us Q I1 r1 q1) he hpl
theorem pe_callTy(hc:CallR X (.type T) r)(hg:Gl X x)(hm:X.mg x=none)(hv:bootBuiltins x=some (.type T))(ha:PA X (e::es) t)(hn:x ≠ "__name__":=by decide)(hdb:(x==("__debug__" : Str))=false:=by decide)
  (he:starEach (e::es) X.env=(false,eval e X.env)::starEach es X.env:=by rfl) (hpl:(backTo pos (starEach es X.env)).any (·.1)=false:=by rfl):PE X (.Call (.Name x p) (e::es) [] pos) (tCB r t):=by
 intro pins s σ H Q I h
 refine wpAny_Call_Name_kw (ld_blt I hg hm hv ?_ hn hdb)
 exact PyProof.Rows.callWith_type1 (thn (ha pos pins s σ H _ I h) fun us s1 ⟨vs,H1,I1,r1,q1⟩=>hc pins s1 σ H1 vs us Q I1 r1 q1) he hpl
end
end L2
namespace HT
open PySem PyProof.Rows
section
open PySem.SeqAt
open PySem.AutoSeq1 (wpAny_loadPart')
open PySem.MeetsSeq PySem.MeetsSeq2 PySem.MeetsSeq3
end
section
variable {prog:Program}{w:World}{A:Around}{E:Value→Shared→Prop}{s:Shared}
theorem cat_tup{t b:Addr}{vs ws:List Value}{Q:Value→Shared→Prop}(ht:IsTup s.heap t vs.toArray)(hb:IsTup s.heap b ws.toArray)(hv:vs≠[])
  (h1:ws=[]→Q (.ref t) s) (h2:ws≠[]→Q (.ref s.heap.objs.size) { s with heap:=s.heap.push { cls:=.type "tuple",data:=.seq (vs++ws).toArray } })
  (hsz:vs.length+ws.length≤sizeLine):wpAny (model prog w) A (binaryOp .Add (.ref t) (.ref b)) Q E s:=by
 obtain⟨⟨cls,dd,data,sl⟩,ho,hc,n,hd⟩:=id ht
 obtain⟨⟨cls2,dd2,data2,sl2⟩,ho2,hc2,n2,hd2⟩:=id hb
 simp only at hc hd hc2 hd2
 subst hc hd hc2 hd2
 have e:vs.toArray++ws.toArray=(vs++ws).toArray:=by simp
 by_cases hw:ws=[]
 ·exact concat_meets ⟨_,ho,rfl⟩ ⟨_,ho2,rfl⟩ noFill_tuple_add seq_tuple_add PySem.F.slot_tuple_add PySem.F.entry_tuple_add (PySem.F.args_tuple_add_2 _ _)
   (tuple_addW1 t b vs.toArray ws.toArray n n2 dd dd2 sl sl2 (by simpa using hv) (by simp[hw])) ⟨ho,ho2,h1 hw⟩
 ·refine concat_meets ⟨_,ho,rfl⟩ ⟨_,ho2,rfl⟩ noFill_tuple_add seq_tuple_add PySem.F.slot_tuple_add PySem.F.entry_tuple_add (PySem.F.args_tuple_add_2 _ _)
   (tuple_addW2 t b vs.toArray ws.toArray n n2 dd dd2 sl sl2 (by simpa using hv) (by simpa using hw) (by rw[List.size_toArray,List.size_toArray]; exact hsz)) ⟨ho,ho2,?_⟩
  rw[e]
  exact h2 hw
noncomputable def sIx(n d:Nat):Option Int→Nat
 |none=>d
 |some v=>if v<0 then(v+(n:Int)).toNat else min v.toNat n
theorem sIx_le(n d:Nat)(hd:d≤n)(o:Option Int):sIx n d o≤n:=by
 cases o with
 |none=>exact hd
 |some v=>
  show(if v<0 then(v+(n:Int)).toNat else min v.toNat n)≤n
  by_cases hv:v<0
  ·rw[if_pos hv]; omega
  ·rw[if_neg hv]; exact Nat.min_le_right _ _
theorem clip_eq(v:Int)(n d:Nat):(if v<0 then max (v+(n:Int)) 0 else min v (n:Int))=((sIx n d (some v):Nat):Int):=by
 show(if v<0 then max (v+(n:Int)) 0 else min v (n:Int))=(((if v<0 then(v+(n:Int)).toNat else min v.toNat n):Nat):Int)
 by_cases hv:v<0
 ·simp only[if_pos hv]; omega
 ·simp only[if_neg hv]; omega
theorem adjust_gen(lo hi:Option Int)(n:Nat):Builtin.Slice.sliceAdjust lo hi 1 (n:Int)=(((sIx n 0 lo:Nat):Int),((sIx n n hi:Nat):Int)):=by
 have h1:¬ ((1:Int)<0):=by omega
 unfold Builtin.Slice.sliceAdjust
 simp only[h1,if_false]
 refine Prod.ext ?_ ?_
 ·cases lo with
  |none=>rfl
  |some v=>exact clip_eq v n 0
 ·cases hi with
  |none=>rfl
  |some v=>exact clip_eq v n n
theorem places_gen(i j:Nat):Builtin.Slice.slicePlaces (i:Int) (j:Int) 1=j - i:=by
 unfold Builtin.Slice.slicePlaces
 have h1:(1:Int) > 0:=by omega
 simp only[h1,if_true,Int.ediv_one]
 split<;>omega
theorem slicePart_{v:Value}{o:Option Int}{Q:Option Int→Shared→Prop}(p:IsPart v o)(h:Q o s):wpAny (model prog w) A (Builtin.Slice.slicePartIndex v) Q E s:=by
 cases p with
 |none=>exact slicePart_none h
 |int i t=>exact slicePart_int h
theorem sliceApplied_gen{sl:Addr}{vl vu:Value}{lo hi:Option Int}{n:Nat}{Q:Int×Int×Nat→Shared→Prop}(hs:s.heap.IsSliceOf sl vl vu .none)(pl:IsPart vl lo)(pu:IsPart vu hi)
  (h:Q (((sIx n 0 lo:Nat):Int),1,sIx n n hi - sIx n 0 lo) s):wpAny (model prog w) A (Builtin.Slice.sliceApplied (.ref sl) (pure (n:Int))) Q E s:=by
 obtain⟨os,hos,hcs,hds⟩:=id hs
 unfold Builtin.Slice.sliceApplied Builtin.Slice.sliceFields
 refine wpAny_bind (wpAny_bind (wpAny_field hos hds (x:=vl) rfl (wpAny_bind (wpAny_field hos hds (x:=vu) rfl (wpAny_bind (wpAny_field hos hds (x:=.none) rfl (wpAny_pure ?_)))))))
 refine wpAny_bind (slicePart_none ?_)
 show wpAny _ _ (if ((1:Int)==0)=true then _ else _) _ _ s
 rw[if_neg (by decide)]
 refine wpAny_bind (slicePart_ pl (wpAny_bind (slicePart_ pu (wpAny_bind (wpAny_pure ?_)))))
 show wpAny _ _ (match Builtin.Slice.sliceAdjust lo hi 1 (n:Int) with|(lo,hi)=>pure (lo,(1:Int),Builtin.Slice.slicePlaces lo hi 1)) _ _ s
 rw[adjust_gen lo hi n]
 show wpAny _ _ (pure (((sIx n 0 lo:Nat):Int),(1:Int),Builtin.Slice.slicePlaces ((sIx n 0 lo:Nat):Int) ((sIx n n hi:Nat):Int) 1)) _ _ s
 rw[places_gen]
 exact wpAny_pure h
theorem pick_gen(xs:Array Value)(i k:Nat):((List.range k).filterMap fun(m:Nat)=>xs[((i:Int)+(m:Int)*1).toNat]?).toArray=((xs.toList.drop i).take k).toArray:=by
 have e:(fun(m:Nat)=>xs[((i:Int)+(m:Int)*1).toNat]?)=fun m=>xs[i+m]?:=by
  funext m
  have:((i:Int)+(m:Int)*1).toNat=i+m:=by omega
  rw[this]
 rw[e]
 have:=pick_run xs i k
 rw[List.filterMap_map]at this
 have e2:((fun x=>xs[x]?)∘fun x=>i+x)=fun m=>xs[i+m]?:=rfl
 rw[e2]at this
 rw[this]
theorem getItem_tuple_cut{t sl:Addr}{items:Array Value}{vl vu:Value}{lo hi:Option Int}{Q:Value→Shared→Prop}(ht:IsTup s.heap t items)(hs:s.heap.IsSliceOf sl vl vu .none)(pl:IsPart vl lo)(pu:IsPart vu hi)
  (hw:¬ (sIx items.size 0 lo=0∧sIx items.size items.size hi=items.size))
  (h:Q (.ref s.heap.objs.size) { s with heap:=s.heap.push { cls:=.type "tuple",data:=.seq ((items.toList.drop (sIx items.size 0 lo)).take (sIx items.size items.size hi - sIx items.size 0 lo)).toArray } })
  (hsz:items.size≤sizeLine):wpAny (model prog w) A (getItem (.ref t) (.ref sl)) Q E s:=by
 have htake:sizeOk (.seq ((items.toList.drop (sIx items.size 0 lo)).take (sIx items.size items.size hi - sIx items.size 0 lo)).toArray):=by
  show((items.toList.drop (sIx items.size 0 lo)).take (sIx items.size items.size hi - sIx items.size 0 lo)).toArray.size≤sizeLine
  rw[List.size_toArray,List.length_take,List.length_drop,Array.length_toList]
  omega
 have hj:sIx items.size items.size hi≤items.size:=sIx_le _ _ (Nat.le_refl _) hi
 obtain⟨os,hos,hcs,hds⟩:=id hs
 have hTs:s.TypeIs (.ref sl) "slice":=⟨os,hos,hcs⟩
 unfold getItem
 try with_reducible refine wpAny_holding ?_
 first|refine wpAny_bind (wpAny_pure ?_)|skip
 refine wpAny_bind (wpAny_sequenceKey ht.typeIs (by decide) ?_)
 refine wpAny_bind (wpAny_callSpecial?_slot (name:=Str.ofString "__getitem__") ht.typeIs PyProof.Rows.slot_tuple_getitem
  (wpAny_call_entry PyProof.Rows.slot_tuple_getitem ht.typeIs entry_tuple_getitem ?_ (args_tuple_getitem _ _)))
 show wpAny _ _ (Builtin.Tuple.tupleItemsOf (.ref t) >>= _) _ _ s
 refine wpAny_bind (tupleItemsOf_ ht ?_)
 refine wpAny_bind (wpAny_typeOf hTs ?_)
 rw[if_pos (by decide)]
 refine wpAny_bind (sliceApplied_gen hs pl pu ?_)
 have hno:¬ ((((sIx items.size 0 lo:Nat):Int)==0&&(1:Int)==1&&(sIx items.size items.size hi - sIx items.size 0 lo)==items.size)=true):=by
  intro q
  rw[Bool.and_eq_true,Bool.and_eq_true]at q
  have q1:((sIx items.size 0 lo:Nat):Int)=0:=eq_of_beq q.1.1
  have q2:sIx items.size items.size hi - sIx items.size 0 lo=items.size:=eq_of_beq q.2
  exact hw ⟨by omega,by omega⟩
 show wpAny _ _ (if (((sIx items.size 0 lo:Nat):Int)==0&&(1:Int)==1&&(sIx items.size items.size hi - sIx items.size 0 lo)==items.size)=true then _ else _) _ _ s
 rw[if_neg hno,pick_gen]
 first
  |exact wpAny_bind (m:=Builtin.Tuple.tupleExact _) (wpAny_newObj_type (wpAny_pure ⟨_,rfl,wpAny_pure h⟩) htake)
  |exact wpAny_bind (m:=Builtin.Tuple.tupleExact _) (wpAny_newObj_type (wpAny_bind (wpAny_pure (wpAny_pure ⟨_,rfl,wpAny_pure h⟩))) htake)
  |exact wpAny_bind (wpAny_bind (m:=Builtin.Tuple.tupleExact _) (wpAny_newObj_type (wpAny_pure (wpAny_pure ⟨_,rfl,wpAny_pure h⟩)) htake))
  |exact wpAny_bind (wpAny_bind (m:=Builtin.Tuple.tupleExact _) (wpAny_newObj_type (wpAny_pure ⟨_,rfl,wpAny_pure h⟩) htake))
end
end HT
namespace L2
open PySem PySem.Spec PyProof.Rows
abbrev TO:=St→Hp→(Option Int→Hp→Prop)→Prop
def PO(X:Cx)(e:Option Expr)(t:TO):Prop:=
 ∀ (pins:List (Addr×Obj)) (s:Shared) (σ:St) (H:Hp) (Q:Option Int→Hp→Prop),Inv X pins σ H s→t σ H Q→
  wpAny (model X.prog X.w) X.A (evalPart e X.env) (fun u s'=>∃ o H',Inv X pins σ H' s'∧IsPart u o∧Q o H') X.xe s
noncomputable def tNoPart:TO:=fun _ H Q=>Q none H
noncomputable def tPart(t:TE):TO:=fun σ H Q=>t σ H fun x H1=>∃ i,x=.int i∧Q (some i) H1
theorem intsAre_of{ns:List Int}:∀ {us:List Value},Vals (ns.map V.int) us→IntsAre us ns:=by
 induction ns with
 |nil=>intro us r; rw[List.map_nil]at r; cases r; exact .nil
 |cons n ns ih=>
  intro us r
  rw[List.map_cons]at r
  cases r with
  |cons r1 r2=>
   obtain⟨t,e⟩:=r1
   subst e
   exact .cons n t (ih r2)
section
variable {X:Cx}{e:Expr}{te:TE}{lo hi:Option Expr}{tl th:TO}{pos p2:Pos}
theorem po_none:PO X none tNoPart:=by
 intro pins s σ H Q I h
 rw[evalPart_none]
 exact wpAny_pure ⟨none,H,I,.none,h⟩
theorem po_some(h:PE X e te):PO X (some e) (tPart te):=by
 intro pins s σ H Q I hw
 rw[evalPart_some]
 refine thn (h pins s σ H _ I hw) fun u s1 ⟨x,H1,I1,r1,q1⟩=>?_
 obtain⟨i,rfl,q⟩:=q1
 obtain⟨t,rfl⟩:=r1
 exact⟨some i,H1,I1,.int i t,q⟩
def SlR(X:Cx)(r:V→Option Int→Option Int→Hp→VK→Prop):Prop:=
 ∀ (pins:List (Addr×Obj)) (s:Shared) (σ:St) (H:Hp) (x:V) (v vl vu:Value) (lo hi:Option Int) (sl:Addr) (Q:VK),Inv X pins σ H s→RelV x v→s.heap.IsSliceOf sl vl vu .none→IsPart vl lo→IsPart vu hi→r x lo hi H Q→
  ∃ T id,typeLookup (.type T) "__getitem__" = pure (some (.builtin id))∧s.TypeIs v T∧wpAny (model X.prog X.w) X.A (getItem v (.ref sl)) (EP X pins σ Q) X.xe s
theorem SlR.or{r r':V→Option Int→Option Int→Hp→VK→Prop}(h:SlR X r)(h':SlR X r'):SlR X (fun x lo hi H Q=>r x lo hi H Q∨r' x lo hi H Q):=by
 intro pins s σ H x v vl vu lo hi sl Q I rx hs pl pu q
 rcases q with q|q
 ·exact h pins s σ H x v vl vu lo hi sl Q I rx hs pl pu q
 ·exact h' pins s σ H x v vl vu lo hi sl Q I rx hs pl pu q
noncomputable def tSl(r:V→Option Int→Option Int→Hp→VK→Prop)(te:TE)(tl th:TO):TE:=fun σ H Q=>te σ H fun x H1=>tl σ H1 fun l H2=>th σ H2 fun u H3=>r x l u H3 Q
theorem pe_slice{r:V→Option Int→Option Int→Hp→VK→Prop}(hr:SlR X r)(he:PE X e te)(hl:PO X lo tl)(hu:PO X hi th):PE X (.Subscript e (.Slice lo hi none p2) pos) (tSl r te tl th):=by
 intro pins s σ H Q I h
 refine Subscript_ (thn (he pins s σ H _ I h) fun v s1 ⟨x,H1,I1,r1,q1⟩=>?_)
 refine wpAny_Slice (thn (hl pins s1 σ H1 _ I1 q1) fun vl s2 ⟨l,H2,I2,pl,q2⟩=>thn (hu pins s2 σ H2 _ I2 q2) fun vu s3 ⟨u,H3,I3,pu,q3⟩=>?_)
 rw[evalPart_none]
 refine wpAny_pure ?_
 have I4:Inv X pins σ H3 { s3 with heap:=s3.heap.push { cls:=.type "slice",data:=.fields #[vl,vu,.none] } }:=I3.kept (t':=s3.toks) fun b ob q=>Heap.get?_push_of_some _ q
 obtain⟨T,id,hT,ht,hg⟩:=hr pins { s3 with heap:=s3.heap.push { cls:=.type "slice",data:=.fields #[vl,vu,.none] } } σ H3 x v vl vu l u s3.heap.objs.size Q I4 r1 (Heap.IsSliceOf.new ..) pl pu q3
 show wpAny (model X.prog X.w) X.A (subscriptTail e (.Slice lo hi none p2) v (.ref s3.heap.objs.size)) (EP X pins σ Q) X.xe { s3 with heap:=s3.heap.push { cls:=.type "slice",data:=.fields #[vl,vu,.none] } }
 exact tail_any (ops:=[.ref s3.heap.objs.size,v]) ht hT hg (by with_unfolding_all rfl)
noncomputable def cutV(xs:List V)(lo hi:Option Int):List V:=(xs.drop (HT.sIx xs.length 0 lo)).take (HT.sIx xs.length xs.length hi - HT.sIx xs.length 0 lo)
theorem cutV_length(xs:List V)(lo hi:Option Int):(cutV xs lo hi).length≤xs.length:=by
 unfold cutV
 rw[List.length_take,List.length_drop]
 omega
def rSlT(K:PySem.W.Frag):V→Option Int→Option Int→Hp→VK→Prop:=fun x lo hi H Q=>∃ a xs,x=.ref a∧SqT K H a xs∧
 ¬ (HT.sIx xs.length 0 lo=0∧HT.sIx xs.length xs.length hi=xs.length)∧∀ p,H p=none→Q (.ref p) (upd H p (.tup (cutV xs lo hi)))
theorem sl_tup:SlR X (rSlT X.K):=by
 intro pins s σ H x v vl vu lo hi sl Q I rx hs pl pu h
 obtain⟨a,xs,rfl,hx,hw,q⟩:=h
 cases rx
 obtain⟨its,r,ht,hz⟩:=I.tuple hx
 have hlen:its.toArray.size=xs.length:=by rw[List.size_toArray]; exact r.length.symm
 refine⟨"tuple",_,PyProof.Rows.slot_tuple_getitem.lookup,ht.typeIs,?_⟩
 refine HT.getItem_tuple_cut ht hs pl pu (by rw[hlen]; exact hw) ?_ (by rw[hlen]; exact hz)
 rw[hlen]
 refine⟨.ref s.heap.objs.size,_,I.laid (t':=s.toks) (o:=.tup (cutV xs lo hi)) (fun b ob q=>Heap.get?_push_of_some _ q) (Nat.le_refl _) ?_,rfl,q _ (I.hok.fresh (Nat.le_refl _))⟩
 exact⟨Nat.le_trans (cutV_length xs lo hi) hz,_,(r.drop (HT.sIx xs.length 0 lo)).take (HT.sIx xs.length xs.length hi - HT.sIx xs.length 0 lo),IsTup.new _ _⟩
noncomputable def rCatT(K:PySem.W.Frag):R2:=fun x y H Q=>∃ a b xs ys,x=.ref a∧y=.ref b∧SqT K H a xs∧SqT K H b ys∧xs≠[]∧xs.length+ys.length≤sizeLine∧
 (ys=[]→Q (.ref a) H)∧(ys≠[]→∀ p,H p=none→Q (.ref p) (upd H p (.tup (xs++ys))))
theorem Vals.nil_iff{xs:List V}{us:List Value}(r:Vals xs us):us=[]↔xs=[]:=by
 cases r with
 |nil=>simp
 |cons _ _=>simp
theorem op_catT:OpR X (binaryOp .Add) (rCatT X.K):=by
 intro pins s σ H x y v u Q I rx ry h
 obtain⟨a,b,xs,ys,rfl,rfl,ha,hb,hx,hz,q1,q2⟩:=h
 cases rx
 cases ry
 obtain⟨its,r1,p1,_⟩:=I.tuple ha
 obtain⟨its2,r2,p2,_⟩:=I.tuple hb
 refine HT.cat_tup p1 p2 (fun z=>hx (r1.nil_iff.mp z)) (fun z=>⟨.ref a,H,I,rfl,q1 (r2.nil_iff.mp z)⟩) (fun z=>?_) (by rw[← r1.length,← r2.length]; exact hz)
 refine⟨.ref s.heap.objs.size,_,I.laid (t':=s.toks) (o:=.tup (xs++ys)) (fun b ob q=>Heap.get?_push_of_some _ q) (Nat.le_refl _) ?_,rfl,q2 (fun w=>z (r2.nil_iff.mpr w)) _ (I.hok.fresh (Nat.le_refl _))⟩
 exact⟨by rw[List.length_append]; exact hz,_,r1.append r2,IsTup.new _ _⟩
end
end L2
namespace L2
open PySem PySem.Spec PyProof.Rows
noncomputable def ixN(n:Nat)(i:Int):Option Nat:=if 0≤i then(if i<n then some i.toNat else none) else if -(n:Int)≤i then some (i+n).toNat else none
noncomputable def atI{α:Type}(xs:List α)(i:Int):Option α:=(ixN xs.length i).bind fun j=>xs[j]?
theorem ixN_seq{n:Nat}{i:Int}{j:Nat}(h:ixN n i=some j):seqIndex? i n=some j∧j<n∧-(n:Int)≤i∧i<n:=by
 unfold ixN at h
 by_cases h0:0≤i
 ·rw[if_pos h0]at h
  by_cases h1:i<n
  ·rw[if_pos h1]at h
   have e:i.toNat=j:=Option.some.inj h
   exact⟨by rw[seqIndex_of h0 h1,e],by omega,by omega,h1⟩
  ·rw[if_neg h1]at h; cases h
 ·rw[if_neg h0]at h
  by_cases h1:-(n:Int)≤i
  ·rw[if_pos h1]at h
   have e:(i+n).toNat=j:=Option.some.inj h
   exact⟨by rw[seqIndex_neg (by omega) h1,e],by omega,h1,by omega⟩
  ·rw[if_neg h1]at h; cases h
theorem atI_get{α:Type}{xs:List α}{i:Int}{v:α}(h:atI xs i=some v):∃ j,seqIndex? i xs.length=some j∧xs[j]?=some v∧j<xs.length∧-(xs.length:Int)≤i∧i<xs.length:=by
 unfold atI at h
 cases e:ixN xs.length i with
 |none=>rw[e]at h; cases h
 |some j=>
  rw[e]at h
  obtain⟨h1,h2,h3,h4⟩:=ixN_seq e
  exact⟨j,h1,h,h2,h3,h4⟩
def PlainIx(b:Expr):Prop:=∀ o i,subscripted b false o i=operate [o,i] (getItem o i)
def IxR(X:Cx)(r:R2):Prop:=
 ∀ (value slice:Expr) (pins:List (Addr×Obj)) (s:Shared) (σ:St) (H:Hp) (x y:V) (v u:Value) (Q:VK),Inv X pins σ H s→RelV x v→RelV y u→r x y H Q→
  subscripted slice false v u=operate [v,u] (getItem v u)→wpAny (model X.prog X.w) X.A (subscriptTail value slice v u) (EP X pins σ Q) X.xe s
def MtR(X:Cx)(id:String)(r:V→List V→Hp→VK→Prop):Prop:=
 ∀ (pins:List (Addr×Obj)) (s:Shared) (σ:St) (H:Hp) (x:V) (xs:List V) (v:Value) (us:List Value) (Q:VK),Inv X pins σ H s→RelV x v→Vals xs us→r x xs H Q→
  wpAny (model X.prog X.w) X.A (call (.builtin id) (v::us)) (EP X pins σ Q) X.xe s
section
variable {X:Cx}{a b:Expr}{ta tb:TE}{pos:Pos}
theorem IxR.or{r r':R2}(h:IxR X r)(h':IxR X r'):IxR X (fun x y H Q=>r x y H Q∨r' x y H Q):=by
 intro value slice pins s σ H x y v u Q I rx ry q hs
 rcases q with q|q
 ·exact h value slice pins s σ H x y v u Q I rx ry q hs
 ·exact h' value slice pins s σ H x y v u Q I rx ry q hs
theorem MtR.or{id:String}{r r':V→List V→Hp→VK→Prop}(h:MtR X id r)(h':MtR X id r'):MtR X id (fun x xs H Q=>r x xs H Q∨r' x xs H Q):=by
 intro pins s σ H x xs v us Q I rx rs q
 rcases q with q|q
 ·exact h pins s σ H x xs v us Q I rx rs q
 ·exact h' pins s σ H x xs v us Q I rx rs q
theorem pe_ix{r:R2}(hr:IxR X r)(ha:PE X a ta)(hb:PE X b tb)(hs:PlainIx b):PE X (.Subscript a b pos) (tOp r ta tb):=by
 intro pins s σ H Q I h
 exact Subscript_ (binT ha hb I h fun v u s2 x y H2 I2 rx ry q=>hr a b pins s2 σ H2 x y v u Q I2 rx ry q (hs _ _))
noncomputable def rIxL(K:PySem.W.Frag):R2:=fun x y H Q=>∃ p xs i v,x=.ref p∧y=.int i∧SqL K H p xs∧atI xs i=some v∧Q v H
noncomputable def rIxT(K:PySem.W.Frag):R2:=fun x y H Q=>∃ p xs i v,x=.ref p∧y=.int i∧SqT K H p xs∧atI xs i=some v∧Q v H
noncomputable def rIxS:R2:=fun x y H Q=>∃ z i c,x=.str z∧y=.int i∧z.length≤sizeLine∧atI z.cps.toList i=some c∧Q (.str ⟨#[c]⟩) H
theorem ix_list:IxR X (rIxL X.K):=by
 intro value slice pins s σ H x y v u Q I rx ry h hs
 obtain⟨p,xs,i,z,rfl,rfl,hq,he,q⟩:=h
 cases rx
 obtain⟨t,rfl⟩:=ry
 obtain⟨its,r,pl,hz⟩:=I.list hq
 obtain⟨j,h1,h2,h3,h4,h5⟩:=atI_get he
 obtain⟨w,ew,rw'⟩:=r.get h2
 have hl:=r.length
 have hn:=line63
 have fin:EP X pins σ Q w s:=⟨z,H,I,rw',q⟩
 by_cases h0:0≤i
 ·have hj:i.toNat=j:=by
   rw[seqIndex_of h0 h5]at h1
   exact Option.some.inj h1
  exact item_listR pl.isList h0 (by omega) (by rw[hj]; simpa using ew) fin hs
 ·have hj:(i+(its.toArray.size:Int)).toNat=j:=by
   rw[seqIndex_neg (by omega) h4]at h1
   rw[List.size_toArray,← hl]
   exact Option.some.inj h1
  exact subscriptTail_builtinR (x:=w) pl.isList.typeIs slot_list_getitem.lookup
   (wpAny_getItem_list_neg (Q:=fun r s'=>r=w∧EP X pins σ Q r s') pl.isList (by omega) (by rw[List.size_toArray]<;>omega) (by omega) (by rw[hj]; simpa using ew) ⟨rfl,fin⟩) hs
theorem ix_tup:IxR X (rIxT X.K):=by
 intro value slice pins s σ H x y v u Q I rx ry h hs
 obtain⟨p,xs,i,z,rfl,rfl,hq,he,q⟩:=h
 cases rx
 obtain⟨t,rfl⟩:=ry
 obtain⟨its,r,pl,hz⟩:=I.tuple hq
 obtain⟨j,h1,h2,h3,h4,h5⟩:=atI_get he
 obtain⟨w,ew,rw'⟩:=r.get h2
 have hl:=r.length
 have hn:=line63
 have fin:EP X pins σ Q w s:=⟨z,H,I,rw',q⟩
 exact subscriptTail_builtinR (x:=w) pl.typeIs slot_tuple_getitem.lookup
  (getItem_tuple (j:=j) (Q:=fun r s'=>r=w∧EP X pins σ Q r s') pl (by omega) (by omega) (by rw[List.size_toArray,← hl]; exact h1) (by simpa using ew) ⟨rfl,fin⟩) hs
theorem ix_str:IxR X rIxS:=by
 intro value slice pins s σ H x y v u Q I rx ry h hs
 obtain⟨z,i,c,rfl,rfl,hz,he,q⟩:=h
 obtain⟨t,rfl⟩:=rx
 obtain⟨t',rfl⟩:=ry
 obtain⟨j,h1,h2,h3,h4,h5⟩:=atI_get he
 have hl:z.cps.toList.length=z.length:=by simp[Str.length]
 rw[hl]at h1 h4 h5
 have hn:=line63
 exact tail_any (typeIs_str s z t) slot_str_getitem.lookup (getItem_str (c:=c) (by
  have e1:decide (i < -(2 ^ 63:Int))=false:=decide_eq_false (by omega)
  have e2:decide (i ≥ 2 ^ 63)=false:=decide_eq_false (by omega)
  rw[e1,e2,Bool.or_false]) (by rw[h1]; simpa using h2) ⟨.str ⟨#[c]⟩,H,I.tok _,⟨_,rfl⟩,q⟩) hs
theorem Inv.lst{pins:List (Addr×Obj)}{σ:St}{H:Hp}{s:Shared}{p:Addr}{xs:List V}(I:Inv X pins σ H s)(h:H p=some (.lst xs)):
  ∃ (its:List Value) (n:Nat),Vals xs its∧s.heap.get? p=some { cls:=.type "list",data:=.seq its.toArray n }∧xs.length≤sizeLine:=by
 obtain⟨z,its,n,r,e⟩:=I.hok p _ h
 exact⟨its,n,r,e,z⟩
theorem slice_bounds(lo hi:Option Int)(n:Nat):(sliceBounds lo hi none n).1=((HT.sIx n 0 lo:Nat):Int)∧(sliceBounds lo hi none n).2.1=((HT.sIx n n hi:Nat):Int)∧(sliceBounds lo hi none n).2.2=1:=by
 refine⟨?_,?_,rfl⟩
 ·cases lo with
  |none=>simp[sliceBounds,HT.sIx]
  |some i=>
   simp only[sliceBounds,HT.sIx,Option.getD_none,show(1:Int) > 0 by decide,if_true]
   by_cases h:i<0
   ·simp only[h,if_true]<;>omega
   ·simp only[h,if_false]<;>omega
 ·cases hi with
  |none=>simp[sliceBounds,HT.sIx]
  |some i=>
   simp only[sliceBounds,HT.sIx,Option.getD_none,show(1:Int) > 0 by decide,if_true]
   by_cases h:i<0
   ·simp only[h,if_true]<;>omega
   ·simp only[h,if_false]<;>omega
theorem slicePick_cut(its:List Value)(lo hi:Option Int):slicePick its.toArray lo hi none=((its.drop (HT.sIx its.length 0 lo)).take (HT.sIx its.length its.length hi - HT.sIx its.length 0 lo)).toArray:=by
 obtain⟨h1,h2,h3⟩:=slice_bounds lo hi its.toArray.size
 unfold slicePick
 rw[h1,h2,h3]
 simp only[sliceRange_one,pick_run,List.size_toArray]<;>rfl
def rSlL(K:PySem.W.Frag):V→Option Int→Option Int→Hp→VK→Prop:=fun x lo hi H Q=>∃ a xs,x=.ref a∧SqL K H a xs∧∀ p,H p=none→Q (.ref p) (upd H p (.lst (cutV xs lo hi)))
theorem sl_list:SlR X (rSlL X.K):=by
 intro pins s σ H x v vl vu lo hi sl Q I rx hs pl pu h
 obtain⟨a,xs,rfl,hx,q⟩:=h
 cases rx
 obtain⟨its,r,ht,hz⟩:=I.list hx
 have hlen:=r.length
 refine⟨"list",_,slot_list_getitem.lookup,ht.isList.typeIs,?_⟩
 refine wpAny_getItem_list_slice ht.isList hs pl pu .none (by simp) ?_ (by rw[List.size_toArray]<;>omega)
 rw[slicePick_cut,← hlen]
 refine⟨.ref s.heap.objs.size,_,I.laid (t':=s.toks) (o:=.lst (cutV xs lo hi)) (fun b ob q=>Heap.get?_push_of_some _ q) (Nat.le_refl _) ?_,rfl,q _ (I.hok.fresh (Nat.le_refl _))⟩
 exact⟨Nat.le_trans (cutV_length xs lo hi) hz,_,0,(r.drop (HT.sIx xs.length 0 lo)).take (HT.sIx xs.length xs.length hi - HT.sIx xs.length 0 lo),Heap.get?_push_size _ rfl⟩
theorem call_len_seq:CallR X (.builtin "len") (fun xs H Q=>∃ p ys,xs=[.ref p]∧(SqL X.K H p ys∨SqT X.K H p ys)∧Q (.int ys.length) H):=by
 intro pins s σ H xs us Q I r h
 obtain⟨p,ys,rfl,hq,q⟩:=h
 obtain⟨u,rfl,rx⟩:=vals1 r
 cases rx
 have hn:=line63
 rcases hq with hq|hq
 ·obtain⟨its,r',pl,hz⟩:=I.list hq
  have hlen:=r'.length
  exact Calls.call_len_list pl.isList (by simp only[List.size_toArray]<;>omega) ⟨.int ys.length,H,I.tok _,⟨s.toks+1,by rw[List.size_toArray,hlen]⟩,q⟩
 ·obtain⟨its,r',pl,hz⟩:=I.tuple hq
  have hlen:=r'.length
  exact len_tuple pl (by simp only[List.size_toArray]<;>omega) ⟨.int ys.length,H,I.tok _,⟨s.toks+1,by rw[List.size_toArray,hlen]⟩,q⟩
theorem call_len_str:CallR X (.builtin "len") (fun xs H Q=>∃ z,xs=[.str z]∧z.length≤sizeLine∧Q (.int z.length) H):=by
 intro pins s σ H xs us Q I r h
 obtain⟨z,rfl,hz,q⟩:=h
 obtain⟨u,rfl,t,rfl⟩:=vals1 r
 have hn:=line63
 exact len_str (by omega) ⟨.int z.length,H,I.tok _,⟨_,rfl⟩,q⟩
theorem CallR.or{f:Value}{r r':List V→Hp→VK→Prop}(h:CallR X f r)(h':CallR X f r'):CallR X f (fun xs H Q=>r xs H Q∨r' xs H Q):=by
 intro pins s σ H xs us Q I rs q
 rcases q with q|q
 ·exact h pins s σ H xs us Q I rs q
 ·exact h' pins s σ H xs us Q I rs q
theorem call_list_of:CallR X (.type "list") (fun xs H Q=>∃ p ys,xs=[.ref p]∧(SqL X.K H p ys∨SqT X.K H p ys)∧∀ l,H l=none→Q (.ref l) (upd H l (.lst ys))):=by
 intro pins s σ H xs us Q I r h
 obtain⟨p,ys,rfl,hq,q⟩:=h
 obtain⟨u,rfl,rx⟩:=vals1 r
 cases rx
 have fin:∀ (its:List Value),Vals ys its→ys.length≤sizeLine→∀ (h':Heap) (c':Nat),(∀ b o',s.heap.get? b=some o'→h'.get? b=some o')→
   h'.get? s.heap.objs.size=some { cls:=.type "list",dict:=none,data:=.seq its.toArray c',slots:=#[] }→EP X pins σ Q (.ref s.heap.objs.size) { s with heap:=h' }:=fun its r' hz h' c' kp e=>
  ⟨.ref s.heap.objs.size,_,I.laid (t':=s.toks) kp (Nat.le_refl _) (show ObjOk X.prog X.w _ h' _ (.lst ys) from⟨hz,its,c',r',e⟩),rfl,q _ (I.hok.fresh (Nat.le_refl _))⟩
 rcases hq with hq|hq
 ·obtain⟨its,r',pl,hz⟩:=I.list hq
  have hlen:=r'.length
  obtain⟨o,ho,hc,n,hd⟩:=pl.isList
  exact call_list_seq p (.inl rfl) ho hc hd (fun h' c' kp e=>fin its r' hz h' c' kp e) (by simp only[List.size_toArray]<;>omega)
 ·obtain⟨its,r',pl,hz⟩:=I.tuple hq
  have hlen:=r'.length
  obtain⟨o,ho,hc,n,hd⟩:=pl
  exact call_list_seq p (.inr rfl) ho hc hd (fun h' c' kp e=>fin its r' hz h' c' kp e) (by simp only[List.size_toArray]<;>omega)
theorem call_tuple_of:CallR X (.type "tuple") (fun xs H Q=>∃ p ys,xs=[.ref p]∧((SqL X.K H p ys∧∀ l,H l=none→Q (.ref l) (upd H l (.tup ys)))∨(SqT X.K H p ys∧Q (.ref p) H))):=by
 intro pins s σ H xs us Q I r h
 obtain⟨p,ys,rfl,h⟩:=h
 obtain⟨u,rfl,rx⟩:=vals1 r
 cases rx
 rcases h with⟨hq,q⟩|⟨hq,q⟩
 ·obtain⟨its,r',pl,hz⟩:=I.list hq
  have hlen:=r'.length
  refine call_tuple_list pl.isList (fun h' kp=>?_) (by simp only[List.size_toArray]<;>omega)
  have I1:Inv X pins σ H { s with heap:=h' }:=I.kept (t':=s.toks) kp
  have I2:Inv X pins σ (upd H h'.objs.size (.tup ys)) { s with heap:=h'.push { cls:=.type "tuple",data:=.seq its.toArray } }:=
   I1.laid (t':=s.toks) (fun b o e=>Heap.get?_push_of_some _ e) (Nat.le_refl _) (show ObjOk X.prog X.w _ _ _ (.tup ys) from⟨hz,its,r',IsTup.new _ _⟩)
  exact⟨.ref h'.objs.size,_,I2,rfl,q _ (I1.hok.fresh (Nat.le_refl _))⟩
 ·obtain⟨its,r',pl,hz⟩:=I.tuple hq
  exact call_tuple_same pl ⟨.ref p,H,I,rfl,q⟩
def tyV(K:PySem.W.Frag)(T:String)(x:V)(H:Hp):Prop:=match x with
 |.str _=>T = "str"
 |.int _=>T = "int"
 |.ref p=>(T = "list"∧∃ xs,SqL K H p xs)∨(T = "tuple"∧∃ o,K.lookup p=some o∧o.cls=.type "tuple"∧o.dict=none)∨
   (T = "dict"∧((∃ kvs,H p=some (.dK kvs))∨∃ kvs,H p=some (.dT kvs)))∨(T = "set"∧∃ S n,H p=some (.set S n))
 |_=>False
theorem tyV_is{pins:List (Addr×Obj)}{σ:St}{H:Hp}{s:Shared}{T:String}{x:V}{v:Value}(I:Inv X pins σ H s)(r:RelV x v)(ty:tyV X.K T x H):
  s.TypeIs v T∧∀ a,v=.ref a→∃ ob,s.heap.get? a=some ob∧ob.dict=none:=by
 cases x with
 |str z=>
  obtain⟨t,rfl⟩:=r
  cases (show T = "str" from ty)
  exact⟨typeIs_str s z t,fun _ e=>nomatch e⟩
 |int i=>
  obtain⟨t,rfl⟩:=r
  cases (show T = "int" from ty)
  exact⟨typeIs_int s i t,fun _ e=>nomatch e⟩
 |ref p=>
  cases r
  rcases ty with⟨rfl,xs,hq⟩|⟨rfl,o,hk,hc,hd⟩|⟨rfl,hk⟩|⟨rfl,S,n,hk⟩
  ·obtain⟨its,_,pl,_⟩:=I.list hq
   refine⟨pl.isList.typeIs,fun a e=>?_⟩
   cases e
   obtain⟨o,n,e,c,hd,_⟩:=pl
   exact⟨o,e,hd⟩
  ·refine⟨⟨o,I.kIn p o hk,hc⟩,fun a e=>?_⟩
   cases e
   exact⟨o,I.kIn _ o hk,hd⟩
  ·have z:∃ o,s.heap.get? p=some o∧o.ExactDict:=by
    rcases hk with⟨kvs,hk⟩|⟨kvs,hk⟩
    ·obtain⟨_,_,_,_,o,_,_,e,ex,_⟩:=I.hok p _ hk
     exact⟨o,e,ex⟩
    ·obtain⟨_,_,_,_,o,_,_,e,ex,_⟩:=I.hok p _ hk
     exact⟨o,e,ex⟩
   obtain⟨o,e,ex⟩:=z
   refine⟨⟨o,e,ex.1⟩,fun a e2=>?_⟩
   cases e2
   exact⟨o,e,ex.2.1⟩
  ·obtain⟨o,_,_,_,e,ex,_⟩:=I.hok p _ hk
   refine⟨⟨o,e,ex.1⟩,fun a e2=>?_⟩
   cases e2
   exact⟨o,e,ex.2.1⟩
 |_=>exact False.elim ty
noncomputable def tBM(K:PySem.W.Frag)(T:String)(r:V→List V→Hp→VK→Prop)(to:TE)(t:TA):TE:=fun σ H Q=>to σ H fun x H1=>tyV K T x H1∧t σ H1 fun xs H2=>r x xs H2 Q
variable {o e:Expr}{es:List Expr}{to:TE}{t:TA}{name:Str}{apos cpos:Pos}{T id:String}{r:V→List V→Hp→VK→Prop}
theorem pe_bm(pa:PlainAttrs T)(slot:Slot T name id)(hty:typeOf (.builtin id)=pure (.type "method_descriptor"))(hm:MtR X id r)(ho:PE X o to)(ha:PA X (e::es) t)
  (hbase:attributeBase o name X.env (eval o X.env)=eval o X.env:=by rfl)
  (hfew:((backTo cpos (starEach (e::es) X.env)).all (fun x=>!x.1)&&(backToKw cpos (keywordEach [] X.env)).all (fun x=>x.1.isSome)
   && decide ((e::es).length+([]:List Keyword).length+(if ([]:List Keyword).isEmpty then 0 else 1)<30))=true:=by rfl)
  (hline:(apos.endLine==cpos.line)=true:=by rfl) (hs:starEach (e::es) X.env=(false,eval e X.env)::starEach es X.env:=by rfl) (hplain:(backTo cpos (starEach es X.env)).any (·.1)=false:=by rfl) :
  PE X (.Call (.Attribute o name apos) (e::es) [] cpos) (tBM X.K T r to t):=by
 intro pins s σ H Q I h
 refine wpAny_Call_method_late hbase hfew hline rfl (thn (ho pins s σ H _ I h) fun v s1 ⟨x,H1,I1,r1,ty,q1⟩=>?_)
 obtain⟨h1,h2⟩:=tyV_is I1 r1 ty
 refine⟨T,id,pa,slot,hty,h1,h2,?_⟩
 have hA:=ha cpos pins s1 σ H1 _ I1 q1
 rw[hs]at hA ⊢
 refine Calls.callWith_builtin (by show(false||(backTo cpos (starEach es X.env)).any (·.1))=false; rw[hplain]<;>rfl) (Calls.evalArgs_plain ?_)
 exact thn hA fun us s2 ⟨vs,H2,I2,r2,q2⟩=>hm pins s2 σ H2 x vs v us Q I2 r1 r2 q2
end
end L2
namespace L2
open PySem PySem.Spec PyProof.Rows
def MtM(X:Cx)(id:String)(r:V→List V→Hp→VK→Prop):Prop:=
 ∀ (pins:List (Addr×Obj)) (s:Shared) (σ:St) (H:Hp) (x:V) (xs:List V) (v:Value) (us:List Value) (Q:VK),Inv X pins σ H s→RelV x v→Vals xs us→r x xs H Q→
  wpAny (model X.prog X.w) X.A (call (.builtin id) (v::us)) (EP X pins σ Q) X.xe s
theorem Vals.one:∀ {x:V}{us:List Value},Vals [x] us→∃ u,us=[u]∧RelV x u
 |_,_,.cons r .nil=>⟨_,rfl,r⟩
theorem Vals.two:∀ {x y:V}{us:List Value},Vals [x,y] us→∃ u v,us=[u,v]∧RelV x u∧RelV y v
 |_,_,_,.cons r (.cons q .nil)=>⟨_,_,rfl,r,q⟩
theorem Vals.zero:∀ {us:List Value},Vals [] us→us=[]
 |_,.nil=>rfl
theorem Vals.rep{xs:List V}{us:List Value}(h:Vals xs us):∀ k:Nat,Vals (List.replicate k xs).flatten (List.replicate k us).flatten
 |0=>.nil
 |k+1=>by
  rw[List.replicate_succ,List.replicate_succ,List.flatten_cons,List.flatten_cons]
  exact Vals.append h (Vals.rep h k)
theorem foldl_rep(its:List Value):∀ (k:Nat) (acc:List Value),
  List.foldl (fun x1 x2=>x1++x2) acc.toArray (List.replicate k its.toArray)=(acc++(List.replicate k its).flatten).toArray
 |0,acc=>by simp
 |k+1,acc=>by
  have e:acc.toArray++its.toArray=(acc++its).toArray:=by simp
  have e2:(acc++its)++(List.replicate k its).flatten=acc++(List.replicate (k+1) its).flatten:=by
   rw[List.replicate_succ,List.flatten_cons,List.append_assoc]
  rw[← e2,← foldl_rep its k (acc++its),← e,List.replicate_succ,List.foldl_cons]
section
variable {X:Cx}{pins:List (Addr×Obj)}{σ:St}{H:Hp}{s:Shared}{l b:Addr}{xs ys zs:List V}
theorem Inv.lset{its its':List Value}{n:Nat}{f:Array Value→Array Value}{t':Nat}(I:Inv X pins σ H s)(hH:H l=some (.lst xs))
  (e:s.heap.get? l=some { cls:=.type "list",data:=.seq its.toArray n }) (hf:f its.toArray=its'.toArray) (hv:Vals ys its') (hz:ys.length≤sizeLine) :
  Inv X pins σ (upd H l (.lst ys)) { s with heap:=s.heap.update l (Obj.mapSeq f),toks:=t' }:=by
 have q:=PySem.IsL.update e f
 rw[hf]at q
 refine I.write (x:=l) (e:=l) (by rw[hH]; exact trivial) (.inl rfl) (fun b' u hb hu=>(Heap.get?_update_other s.heap (Obj.mapSeq f) (Ne.symm hb)).trans hu) ⟨_,q⟩ ?_
 exact⟨hz,its',_,hv,q⟩
theorem Inv.lnew{its:List Value}{t':Nat}(I:Inv X pins σ H s)(hv:Vals ys its)(hz:ys.length≤sizeLine):
  Inv X pins σ (upd H s.heap.objs.size (.lst ys)) { s with heap:=s.heap.push { cls:=.type "list",data:=.seq its.toArray },toks:=t' }:=
 I.laid (fun _ _ q=>Heap.get?_push_of_some _ q) (Nat.le_refl _) ⟨hz,its,0,hv,Heap.get?_push_size _ rfl⟩
theorem Inv.fresh(I:Inv X pins σ H s):H s.heap.objs.size=none:=I.hok.fresh (Nat.le_refl _)
theorem Inv.lstM(I:Inv X pins σ H s)(hH:H l=some (.lst xs)):xs.length≤sizeLine∧∃ (its:List Value) (n:Nat),Vals xs its∧xs.length=its.length∧s.heap.get? l=some { cls:=.type "list",data:=.seq its.toArray n }:=by
 obtain⟨z,its,n,r,e⟩:=I.hok l _ hH
 exact⟨z,its,n,r,r.length,e⟩
theorem notLongL{n:Nat}(h:n≤sizeLine):Builtin.List.listTooLong n=false:=by
 unfold Builtin.List.listTooLong
 exact decide_eq_false (by omega)
end
section
variable {X:Cx}
def rAppend:V→List V→Hp→VK→Prop:=fun x vs H Q=>∃ l xs y,x=.ref l∧vs=[y]∧H l=some (.lst xs)∧xs.length<sizeLine∧Q .non (upd H l (.lst (xs++[y])))
theorem mt_append:MtM X "list.append" rAppend:=by
 intro pins s σ H x vs v us Q I rx rv h
 obtain⟨l,xs,y,rfl,rfl,hH,hz,q⟩:=h
 cases rx
 obtain⟨u,rfl,ru⟩:=rv.one
 obtain⟨z,its,n,r,hl,e⟩:=I.lstM hH
 refine call_meets F.slot_list_append ⟨_,e,rfl⟩ F.entry_list_append (F.args_list_append_2 _ _) (PySem.list_append l its.toArray n u (by rw[List.size_toArray]; omega)) ⟨e,?_⟩
 refine⟨.non,_,I.lset (its':=its++[u]) hH e (by simp) (r.append (.cons ru .nil)) ?_,rfl,q⟩
 rw[List.length_append,List.length_singleton]
 omega
noncomputable def rRep:R2:=fun x y H Q=>∃ l k xs,x=.ref l∧y=.int k∧H l=some (.lst xs)∧-(2 ^ 63)≤k∧k<2 ^ 63∧xs.length*k.toNat≤sizeLine∧
 ∀ p,H p=none→Q (.ref p) (upd H p (.lst (List.replicate k.toNat xs).flatten))
theorem len_rep{α:Type}(xs:List α)(k:Nat):(List.replicate k xs).flatten.length=k*xs.length:=by
 induction k with
 |zero=>simp
 |succ k ih=>rw[List.replicate_succ,List.flatten_cons,List.length_append,ih,Nat.succ_mul,Nat.add_comm]
theorem op_rep:OpR X (binaryOp .Mult) rRep:=by
 intro pins s σ H x y v u Q I rx ry h
 obtain⟨l,k,xs,rfl,rfl,hH,h1,h2,hz,q⟩:=h
 cases rx
 obtain⟨t,rfl⟩:=ry
 obtain⟨z,its,n,r,hl,e⟩:=I.lstM hH
 have hlen:its.toArray.size*k.toNat≤sizeLine:=by rw[List.size_toArray,← hl]; exact hz
 have hcap:¬ its.toArray.size*k.toNat > (2 ^ 63 - 1) / 8:=by
  have:(sizeLine:Nat)≤(2 ^ 63 - 1) / 8:=by decide
  omega
 have hfit:¬ (!Builtin.List.listFitsIndex k)=true:=by
  rw[fitsIndex_both h1 h2]
  exact Bool.false_ne_true
 have hlong:¬ Builtin.List.listTooLong (its.toArray.size*k.toNat)=true:=by
  rw[notLongL hlen]
  exact Bool.false_ne_true
 have hnew:List.foldl (fun x1 x2=>x1++x2) #[] (List.replicate (if its.toArray.isEmpty=true then 0 else k.toNat) its.toArray)=(List.replicate k.toNat its).flatten.toArray:=by
  have f0:∀ m:Nat,List.foldl (fun x1 x2=>x1++x2) #[] (List.replicate m its.toArray)=(List.replicate m its).flatten.toArray:=fun m=>by
   have:=foldl_rep its m []
   rw[List.nil_append]at this
   exact this
  rw[f0]
  cases its with
  |nil=>simp
  |cons a r'=>rw[if_neg (by simp)]
 refine wpAny_binaryOp_repeat_ref (T:="list") (U:="int") (by decide) ⟨_,e,rfl⟩ (fun s'=>typeIs_int s' k t) noFill_list_mul F.fills_int_mul F.slot_int_rmul repeat_list F.slot_int_index.lookup
  (call_meets F.slot_int_rmul (typeIs_int s k t) F.entry_int_rmul (F.args_int_rmul_2 _ _) (int___rmul___int_list k t l its.toArray n)
   ⟨e,rfl,⟨_,e,rfl⟩,call_meets F.slot_list_mul ⟨_,e,rfl⟩ F.entry_list_mul (F.args_list_mul_2 _ _) (AutoListH.list___mul___list_int_3 l its.toArray n k t hfit hcap hlong) ⟨e,?_⟩⟩)
 rw[hnew]
 exact⟨.ref _,_,I.lnew (t':=s.toks) (r.rep k.toNat) (by rw[len_rep,Nat.mul_comm]; exact hz),rfl,q _ I.fresh⟩
end
section
variable {prog:Program}{w:World}{A:Around}{E:Value→Shared→Prop}{s:Shared}
end
section
variable {X:Cx}
end
end L2
namespace Att
open PySem PySem.W PySem.Calls PyProof.Rows
theorem ints_of_wellAll{P:Params}{h:Heap}:∀ (ns:List Int) (vs:List Value),WellAll P h vs (ns.map WData.int)→IntsAre vs ns:=by
 intro ns
 induction ns with
 |nil=>
  intro vs w
  rw[List.map_nil]at w
  cases w
  exact .nil
 |cons n ns ih=>
  intro vs w
  rw[List.map_cons]at w
  cases w with
  |cons a b=>
   cases a
   exact .cons _ _ (ih _ b)
theorem script_of{l:OpenLaw}{n:Nat}(hn:l.most=some n){P:Params}{h:Heap}{args:List WData}{vals:List Value}
  (hpre:l.row.toRowW.claim.pre args=true) (hwl:WellAll P h vals args) :
  ∃ a vs ns,vals=[Value.ref a]∧args=[WData.list (ns.map WData.int)]∧h.get? a=some { cls:=.type "list",data:=.seq vs.toArray }∧IntsAre vs ns∧ns.length≤n:=by
 have hsh:WShape.hasAll [] args [.list .int]=true:=(pre_splitW hpre).1
 have hc:l.pre.holds [] { args:=args }=true:=(pre_splitW hpre).2
 obtain⟨d,r,rfl,h1,h2⟩:=hasAllW_cons hsh
 obtain rfl:=hasAllW_nil h2
 obtain⟨xs,rfl,h3⟩:=hasW_list h1
 obtain⟨ns,rfl⟩:=items_int h3
 have hlen:ns.length≤n:=by
  unfold OpenLaw.pre at hc
  have h4:(WTm.not (.lt (.lit (.int (n:Int))) (.len (.arg 0)))).holds [] { args:=[.list (ns.map .int)] }=true:=by
   have h4:=(holds_andW hc).1
   rw[hn]at h4
   exact h4
  have h5:=condW_of h4 (w_not (w_lt w_lit (w_len_list (w_arg rfl))))
  rw[List.length_map]at h5
  refine Nat.le_of_not_lt fun q=>?_
  have q':(n:Int)<((ns.length:Nat):Int):=by omega
  first
   |(rw[decide_eq_true q']at h5; exact absurd h5 (by decide))
   |(simp at h5; omega)
 cases hwl with
 |cons w1 w2=>
  cases w2
  cases w1 with
  |list ho hall=>exact⟨_,_,ns,rfl,rfl,ho,ints_of_wellAll ns _ hall,hlen⟩
theorem post_true(l:OpenLaw)(args:List WData):l.row.toRowW.claim.post args (.bool true) args=true:=
 postW_of (r:=l.row.toRowW) (X:=(true==true))
  (show WShape.has [] (.bool true) .bool=true by first|rfl|decide|simp[WShape.has,WShape.arms,WShape.armsAll])
  (show(WTm.eq .res (.lit (.bool true))).value [] { args:=args,res:=some (.bool true),after:=args }=some (.bool (true==true)) from w_eq_bool (w_res rfl) w_lit) rfl
theorem attach_call{l:OpenLaw}{n:Nat}{q:Program}{loose:List Str}{XP:(Str→Option Value)→Heap→Prop}{YP:World→Heap→Prop}{d:DefRec}
  (hn:l.most=some n) (hdf:d.params.defaults=[])
  (call:∀ (w:World) (s₀ s₁:Shared) (mg mb:Str→Option Value) (fa:Addr) (o:Obj) (pm cd doc:Value) (a:Addr) (vs:List Value) (ns:List Int),
   Ground q loose [] XP w s₀ mg mb s₁.heap→YP w s₁.heap→
   s₁.heap.get? fa=some o→o.data=.func (docDef d.name d.params d.body d.scope pm cd doc)→s₁.heap.CodeRec cd d.name→mg d.name=some (.ref fa)→
   s₁.heap.get? a=some { cls:=.type "list",data:=.seq vs.toArray }→IntsAre vs ns→ns.length≤n→s₁.gens=#[]→
   codeAny (model l.prog w) callerA (.call (.ref fa) ⟨[.ref a],[]⟩) (fun r s'=>r=.ok (.ret (.bool true))∧OldK s₁.heap s'.heap∧s'.os=s₁.os∧AllBare s'.gens) s₁) :
  WalkO q loose XP YP l.row.toRowW d [] (fun f vs=>PySem.call f vs):=by
 intro w s₀ s₁ mg mb G Y fa o pm cd doc dV kV ho hd hcd hD hmg hg args vals as hpre hlay hrd hwl hlo
 obtain rfl:dV=.none:=Dflts.none hD hdf
 obtain rfl:kV=.none:=Dflts.noKw hD
 obtain⟨a,vs,ns,rfl,rfl,hobj,hints,hlen⟩:=script_of hn hpre hwl
 refine enter_call (codeAny_mono (call w s₀ s₁ mg mb fa o pm cd doc a vs ns G Y ho (fd_plain hd) hcd hmg hobj hints hlen hg) fun r s' hq=>?_)
 obtain⟨rfl,h2,h3,h4⟩:=hq
 exact⟨.inl ⟨.bool true,.bool true,[],rfl,fun _=>rfl,.bool true,post_true l _,fun _=>⟨List.Pairwise.nil,fun _ hm=>(nomatch hm)⟩⟩,h2,h3,h4⟩
section
variable {prog:Program}{w:World}{A:Around}{E:Value→Shared→Prop}{s:Shared}{K:Frag}
end
end Att
namespace L2
open PySem PySem.Spec PyProof.Rows
theorem vals_ints:∀ {vs:List Value}{ns:List Int},IntsAre vs ns→Vals (ns.map V.int) vs
 |_,_,.nil=>.nil
 |_,_,.cons n t h=>.cons ⟨t,rfl⟩ (vals_ints h)
def Only(H:Hp):Prop:=∀ b,H b=none∨∃ o xs,H b=some (.frz o (.lst xs))
theorem law_call{P:Program}{w:World}{K:PySem.W.Frag}{mg mb:Str→Option Value}{CX:CXT}{k:Nat}{fa a:Addr}{fd:FuncData}{x:Str}{sp:Sp}{s₁:Shared}{vs:List Value}{ns:List Int}
  (KX:K.In s₁.heap) (hns:s₁.heap.Ns mainGlobals mg) (hb:s₁.heap.Ns builtinsNs mb) (hbb:∀ x:Str,x ≠ "__name__"→mb x=bootBuiltins x) (hlim:s₁.heap.NoLimit) (hg:s₁.gens=#[])
  (ha:s₁.heap.get? a=some { cls:=.type "list",data:=.seq vs.toArray }) (hi:IntsAre vs ns) (hl:ns.length≤sizeLine) (hr:Room k callerA)
  (F:∀ base:Heap,K.In base→base.Ns mainGlobals mg→FnOk P w K mg base CX k fa fd [x] sp) (hbind:∀ (s:Shared) (u:Value),BindsTo s fd ⟨[u],[]⟩ [(x,u)])
  (hsp:∀ H:Hp,Only H→SqL K H a (ns.map V.int)→sp [.ref a] H (fun v _=>v=.bl true) fun _ _ _=>False)
  (hCX:∀ H e s',CX [] H s₁ (fun _ _ _=>False) e s'→False) :
  codeAny (model P w) callerA (.call (.ref fa) ⟨[.ref a],[]⟩) (fun r s'=>r=.ok (.ret (.bool true))∧OldK s₁.heap s'.heap∧s'.os=s₁.os∧AllBare s'.gens) s₁:=by
 have rv:=vals_ints hi
 have lenV:=hi.length
 have core:∀ H:Hp,Only H→SqL K H a (ns.map V.int)→HOk P w H s₁.heap→(∀ b,H b≠none→b=a)→(H a≠none→K.lookup a=none)→
   codeAny (model P w) callerA (.call (.ref fa) ⟨[.ref a],[]⟩) (fun r s'=>r=.ok (.ret (.bool true))∧OldK s₁.heap s'.heap∧s'.os=s₁.os∧AllBare s'.gens) s₁:=by
  intro H hO hS hok hA hK
  have base_of:∀ {b:Addr}{o:Obj},s₁.heap.get? b=some o→H b=none→(hidT s₁.heap H).get? b=some o:=fun e n=>hidT_get e n
  have noA:∀ {b:Addr}{o:Obj}{es:Array DictEntry}{ep:Nat},s₁.heap.get? b=some o→o.data=.dict es ep→H b=none:=fun {b o es ep} e d=>by
   cases q:H b with
   |none=>rfl
   |some u=>
    have e':b=a:=hA b (by rw[q]; simp)
    subst e'
    rw[ha]at e; cases e
    have d':Data.seq vs.toArray _=Data.dict es ep:=d
    cases d'
  have nsK:∀ {b:Addr}{m:Str→Option Value},s₁.heap.Ns b m→(hidT s₁.heap H).Ns b m:=fun {b m} ⟨o,es,ep,e,d,r⟩=>⟨o,es,ep,base_of e (noA e d),d,r⟩
  have hKb:K.In (hidT s₁.heap H):=fun b o e=>base_of (KX b o e) (by
   cases q:H b with
   |none=>rfl
   |some u=>
    have e':b=a:=hA b (by rw[q]; simp)
    subst e'
    rw[hK (by rw[q]; simp)]at e; cases e)
  have hM:Mod K mg (hidT s₁.heap H):=⟨hKb,nsK hns,⟨mb,nsK hb,hbb⟩,let ⟨mc,h1,h2⟩:=hlim; ⟨mc,nsK h1,h2⟩⟩
  have e0:Env0 P w K mg (hidT s₁.heap H) callerA [] s₁ H:=⟨rfl,hM,fun b o e=>of_hidT e,Nat.le_of_eq (hidT_size _ _),trivial,fun b hb=>absurd (show b∈([]:List Addr) from hb) (by simp),hok,.of_eq hg⟩
  refine codeAny_mono ((F _ hKb (nsK hns)).run callerA [] s₁ H ⟨[.ref a],[]⟩ [.ref a] [.ref a] _ _ hr e0 (hbind s₁ (.ref a)) (.cons rfl .nil) (hsp H hO hS)) fun r s' h=>?_
  cases r with
  |error e=>exact(hCX H e s' h).elim
  |ok fl=>
   cases fl with
   |next=>exact False.elim h
   |brk=>exact False.elim h
   |cont=>exact False.elim h
   |ret u=>
    obtain⟨v,H',os,bare,un,hok',r',q⟩:=h
    have q':v=.bl true:=q
    subst q'
    obtain rfl:u=Value.bool true:=r'
    refine⟨rfl,OldK.of_keep fun b o e=>?_,os,bare⟩
    cases q:H b with
    |none=>exact un.keep b o e q (by intro z; exact absurd (show b∈([]:List Addr) from z) (by simp)) (by simp)
    |some u=>
     rcases hO b with z|⟨ob,xs,z⟩
     ·rw[q]at z; cases z
     ·have z2:=un.frzs b ob _ z
      obtain⟨e1,_⟩:=hok b _ z
      obtain⟨e2,_⟩:=hok' b _ z2
      rw[e]at e1; cases e1
      exact e2
 cases hk:K.lookup a with
 |some o=>
  have e:=KX a o hk
  rw[ha]at e
  cases e
  refine core (fun _=>none) (fun _=>.inl rfl) (.inr ⟨_,vs.toArray,_,hk,rfl,rfl,rfl,by rw[List.size_toArray,lenV]; exact hl,by simpa using rv⟩) (fun b u z=>by have z':(none:Option HO)=some u:=z; cases z') (fun b z=>absurd rfl z) fun z=>absurd rfl z
 |none=>
  refine core (fun b=>if b=a then some (.frz { cls:=.type "list",data:=.seq vs.toArray } (.lst (ns.map V.int))) else none) (fun b=>?_) (.inl (.inr ⟨{ cls:=.type "list",data:=.seq vs.toArray },if_pos rfl⟩)) (fun b u z=>?_) (fun b z=>?_) fun _=>hk
  ·by_cases hb:b=a
   ·exact .inr ⟨_,_,if_pos hb⟩
   ·exact .inl (if_neg hb)
  ·by_cases hb:b=a
   ·have z':=(if_pos hb).symm.trans z
    cases z'
    subst hb
    exact⟨ha,by rw[List.length_map]; exact hl,vs,_,rv,ha⟩
   ·have z':=(if_neg hb).symm.trans z
    cases z'
  ·by_cases hb:b=a
   ·exact hb
   ·exact absurd (if_neg hb) z
end L2
namespace L2
open PySem PySem.Spec PyProof.Rows
theorem walk_of{l:PySem.W.OpenLaw}{n k:Nat}{q:Program}{loose:List Str}{XP:(Str→Option Value)→Heap→Prop}{YP:World→Heap→Prop}{d:DefRec}{K:Params→PySem.W.Frag}{CX:World→CXT}{sp:World→Sp}{x:Str}
  (hn:l.most=some n) (hn2:n≤sizeLine) (hdf:d.params.defaults=[]) (hr:Room k callerA)
  (hY:∀ (w:World) (h:Heap),YP w h→(K w.params).In h)
  (F:∀ (w:World) (mg:Str→Option Value) (fa:Addr) (h:Heap),(K w.params).In h→h.Ns mainGlobals mg→mg d.name=some (.ref fa)→
   ∃ fd:FuncData,(∀ (s:Shared) (u:Value),BindsTo s fd ⟨[u],[]⟩ [(x,u)])∧
    ∀ base:Heap,(K w.params).In base→base.Ns mainGlobals mg→FnOk l.prog w (K w.params) mg base (CX w) k fa fd [x] (sp w))
  (hsp:∀ (w:World) (H:Hp) (a:Addr) (ns:List Int),ns.length≤n→Only H→SqL (K w.params) H a (ns.map V.int)→sp w [.ref a] H (fun v _=>v=.bl true) fun _ _ _=>False)
  (hCX:∀ (w:World) (H:Hp) (s:Shared) (e:Value) (s':Shared),CX w [] H s (fun _ _ _=>False) e s'→False) :
  PySem.W.WalkO q loose XP YP l.row.toRowW d [] (fun f vs=>PySem.call f vs):=by
 refine Att.attach_call hn hdf fun w s₀ s₁ mg mb fa o pm cd doc a vs ns G Y ho hd hcd hmg hobj hints hlen hg=>?_
 have KX:=hY w _ Y
 obtain⟨fd,hb,hF⟩:=F w mg fa _ KX G.T.g hmg
 exact law_call KX G.T.g G.T.b G.T.builtins G.T.nolimit hg hobj hints (Nat.le_trans hlen hn2) hr hF hb (fun H hO hS=>hsp w H a ns hlen hO hS) fun H e s'=>hCX w H s₁ e s'
end L2
namespace L2
open PySem PySem.Spec PyProof.Rows
noncomputable def defArgs(s:Stmt):Arguments:=match s with
 |.FunctionDef _ a _ _ _ _ _ _ _ _=>a
 |_=>{ posonlyargs:=[],args:=[],vararg:=none,kwonlyargs:=[],kw_defaults:=[],kwarg:=none,defaults:=[] }
noncomputable def defBody(s:Stmt):List Stmt:=match s with
 |.FunctionDef _ _ b _ _ _ _ _ _ _=>b
 |_=>[]
noncomputable def defScope(s:Stmt):Scope:=match s with
 |.FunctionDef _ _ _ _ _ _ sc _ _ _=>sc
 |_=>{ kind:=.function,names:=[],isGenerator:=false,isCoroutine:=false }
noncomputable abbrev CX0:CXT:=fun _ _ _ _ _ _=>False
noncomputable abbrev E0:XK:=fun _ _ _=>False
theorem pass0{X:Cx}:Passes CX0 X E0:=fun _ _ _ _ _ _ _ h=>h.elim
structure Fun (K:PySem.W.Frag) (x qual:Str) (st:Stmt) (f:Addr) (fd:FuncData):Prop where
 ex:∃ (oc:Value) (od:Option Addr) (kV doc pm:Value) (an:Option Addr) (cdv ct:Value) (osl:Array (Option Value)),
  fd=PySem.W.fnOf x qual (defArgs st) (defBody st) (defScope st) .none kV doc pm an cdv ct∧K.lookup f=some ⟨oc,od,.func fd,osl⟩∧PySem.W.codeIn K cdv qual=true
 kp:PySem.W.keepIn K (.ref f)=true
section
variable {P:Program}{w:World}{K:PySem.W.Frag}{mg:Str→Option Value}{base:Heap}
theorem Fun.ok{x qual:Str}{st:Stmt}{f:Addr}{fd:FuncData}{N ps:List Str}{k:Nat}{sp:Sp}(F:Fun K x qual st f fd)(S:FnScope N ps (defScope st))(len:∀ vs H Q E,sp vs H Q E→vs.length=ps.length)
  (hbody:∀ (cdv:Value) (A:Around) (outer:List Env) (s:Shared) (H:Hp) (vs:List V) (Q:VK) (E:XK),Room k (A.deeper (envOfC qual (defScope st) s.heap.objs.size f cdv))→sp vs H Q E→
   ∃ t,PSs (cxOf CX0 P w K mg base N qual (defScope st) f cdv A outer s H E).nox (defBody st) t∧t { nx:=fun _ H'=>Q .non H',rt:=Q } (start N vs) H):FnOk P w K mg base CX0 (k+1) f fd ps sp:=by
 obtain⟨oc,od,kV,doc,pm,an,cdv,ct,osl,rfl,lk,hcd⟩:=F.ex
 refine fn_of lk hcd S len fun A outer s H vs Q E hr hsp=>?_
 obtain⟨t,h,q⟩:=hbody cdv A outer s H vs Q E hr hsp
 exact⟨t,h.nox,q⟩
theorem Fun.binds{x qual:Str}{st:Stmt}{f:Addr}{fd:FuncData}{ps:List Str}(F:Fun K x qual st f fd)
  (h:∀ (kV doc pm:Value) (an:Option Addr) (cdv ct:Value) (us:List Value),us.length=ps.length→bindArgs (PySem.W.fnOf x qual (defArgs st) (defBody st) (defScope st) .none kV doc pm an cdv ct) ⟨us,[]⟩=pure (ps.zip us)):Binds K fd ps []:=by
 obtain⟨oc,od,kV,doc,pm,an,cdv,ct,osl,rfl,lk,hcd⟩:=F.ex
 exact .all (h kV doc pm an cdv ct)
theorem fun_mk{x qual:Str}{st:Stmt}{f:Addr}{oc:Value}{od an:Option Addr}{osl:Array (Option Value)}{kV doc pm cdv ct:Value}(l:K.lookup f=some ⟨oc,od,.func (PySem.W.fnOf x qual (defArgs st) (defBody st) (defScope st) .none kV doc pm an cdv ct),osl⟩)
  (c:PySem.W.codeIn K cdv qual=true) (k:PySem.W.keepIn K (.ref f)=true):Fun K x qual st f (PySem.W.fnOf x qual (defArgs st) (defBody st) (defScope st) .none kV doc pm an cdv ct):=⟨⟨oc,od,kV,doc,pm,an,cdv,ct,osl,rfl,l,c⟩,k⟩
end
theorem small1000{n:Nat}(h:n≤1000):n<sizeLine:=Nat.lt_of_le_of_lt h (by decide)
section
variable {X:Cx}
theorem pv(i:Nat){x:Str}{pos:Pos}(hN:X.N[i]?=some x)(hv:Vis X.env.scope x)(hd:(x==("__debug__" : Str))=false:=by decide)
  (hcd:(x==("__classdict__" : Str))=false:=by decide):PE X (.Name x pos) (tVar i):=pe_var hN hv hd hcd
end
def Same(H H':Hp):Prop:=∀ b o,H b=some o→H' b=some o
theorem Same.refl(H:Hp):Same H H:=fun _ _ h=>h
theorem Same.trans{H H1 H2:Hp}(a:Same H H1)(b:Same H1 H2):Same H H2:=fun c o h=>b c o (a c o h)
theorem Same.free{H H':Hp}(e:Same H H'){l:Addr}(h:H' l=Option.none):H l=Option.none:=by
 cases q:H l with
 |none=>rfl
 |some o=>
  rw[e l o q]at h
  cases h
theorem Same.seq{K:PySem.W.Frag}{H H':Hp}{a:Addr}{xs:List V}(e:Same H H')(h:SqL K H a xs):SqL K H' a xs:=by
 rcases h with (h|⟨o,h⟩)|h
 ·exact .inl (.inl (e _ _ h))
 ·exact .inl (.inr ⟨o,e _ _ h⟩)
 ·exact .inr h
end L2
end
section
namespace L2
open PySem PySem.Spec PyProof.Rows
section
variable {κ:Type} [DecidableEq κ]
noncomputable def valV(kvs:List (κ×V))(k:κ):Option V:=(kvs.find? fun kv=>decide (kv.1=k)).map (·.2)
noncomputable def putK(kvs:List (κ×V))(k:κ)(v:V):List (κ×V):=
 if (kvs.any fun kv=>decide (kv.1=k))=true then kvs.map (fun kv=>if kv.1=k then(kv.1,v) else kv) else kvs++[(k,v)]
noncomputable def dropK(kvs:List (κ×V))(k:κ):List (κ×V):=kvs.filter fun kv=>decide (kv.1≠k)
theorem valV_pos{p:κ×V}{r:List (κ×V)}{k:κ}(e:p.1=k):valV (p::r) k=some p.2:=by simp[valV,List.find?_cons,e]
theorem valV_neg{p:κ×V}{r:List (κ×V)}{k:κ}(e:¬ p.1=k):valV (p::r) k=valV r k:=by simp[valV,List.find?_cons,e]
theorem valV_any(k:κ):∀ kvs:List (κ×V),(kvs.any fun kv=>decide (kv.1=k))=(valV kvs k).isSome
 |[]=>rfl
 |p::r=>by
  rw[List.any_cons]
  by_cases e:p.1=k
  ·simp only[valV_pos e,decide_eq_true e,Bool.true_or,Option.isSome_some]
  ·rw[valV_neg e,decide_eq_false e,Bool.false_or]; exact valV_any k r
theorem length_putK(kvs:List (κ×V))(k:κ)(v:V):(putK kvs k v).length≤kvs.length+1:=by
 unfold putK
 split
 ·rw[List.length_map]; omega
 ·rw[List.length_append,List.length_cons,List.length_nil]; omega
theorem RelO.isSome_eq{o:Option V}{u:Option Value}(r:RelO o u):o.isSome=u.isSome:=by
 cases o with
 |none=>cases u with
  |none=>rfl
  |some _=>exact(show False from r).elim
 |some _=>cases u with
  |none=>exact(show False from r).elim
  |some _=>rfl
theorem RelO.getD{o:Option V}{u:Option Value}{d:V}{d':Value}(r:RelO o u)(rd:RelV d d'):RelV (o.getD d) (u.getD d'):=by
 cases o with
 |none=>cases u with
  |none=>exact rd
  |some _=>exact(show False from r).elim
 |some _=>cases u with
  |none=>exact(show False from r).elim
  |some _=>exact r
theorem KV.val{kvs:List (κ×V)}{vs:List (κ×Value)}(r:KV kvs vs)(k:κ):RelO (valV kvs k) (valueAt vs k):=by
 unfold KV at r
 induction r with
 |nil=>exact True.intro
 |@cons p q ps qs h t ih=>
  obtain⟨h1,h2⟩:=h
  by_cases e:p.1=k
  ·have e':q.1=k:=h1.symm.trans e
   have b:valueAt (q::qs) k=some q.2:=by simp[valueAt,List.find?_cons,e']
   rw[valV_pos e,b]; exact h2
  ·have e':¬ q.1=k:=fun z=>e (h1.trans z)
   have b:valueAt (q::qs) k=valueAt qs k:=by simp[valueAt,List.find?_cons,e']
   rw[valV_neg e,b]; exact ih
theorem KV.any{kvs:List (κ×V)}{vs:List (κ×Value)}(r:KV kvs vs)(k:κ):(kvs.any fun kv=>decide (kv.1=k))=vs.any fun kv=>decide (kv.1=k):=by
 unfold KV at r
 induction r with
 |nil=>rfl
 |cons h t ih=>rw[List.any_cons,List.any_cons,ih,h.1]
theorem KV.repl{kvs:List (κ×V)}{vs:List (κ×Value)}(r:KV kvs vs)(k:κ){y:V}{u:Value}(ry:RelV y u):
  KV (kvs.map fun kv=>if kv.1=k then(kv.1,y) else kv) (vs.map fun kv=>if kv.1=k then(kv.1,u) else kv):=by
 unfold KV at r ⊢
 induction r with
 |nil=>exact .nil
 |@cons p q ps qs h t ih=>
  rw[List.map_cons,List.map_cons]
  refine .cons ?_ ih
  obtain⟨h1,h2⟩:=h
  by_cases e:p.1=k
  ·rw[if_pos e,if_pos (h1.symm.trans e)]; exact⟨h1,ry⟩
  ·rw[if_neg e,if_neg (fun z=>e (h1.trans z))]; exact⟨h1,h2⟩
theorem KV.put{kvs:List (κ×V)}{vs:List (κ×Value)}(r:KV kvs vs)(k:κ){y:V}{u:Value}(ry:RelV y u):KV (putK kvs k y) (stored vs k u):=by
 unfold putK stored
 rw[r.any k]
 by_cases e:(vs.any fun kv=>decide (kv.1=k))=true
 ·rw[if_pos e,if_pos e]; exact r.repl k ry
 ·rw[if_neg e,if_neg e]; exact Paired.snoc r ⟨rfl,ry⟩
theorem KV.drop{kvs:List (κ×V)}{vs:List (κ×Value)}(r:KV kvs vs)(k:κ):KV (dropK kvs k) (without vs k):=by
 unfold KV at r ⊢
 unfold dropK without
 induction r with
 |nil=>exact .nil
 |@cons p q ps qs h t ih=>
  obtain⟨h1,h2⟩:=h
  rw[List.filter_cons,List.filter_cons]
  by_cases e:p.1=k
  ·have a:¬ decide (p.1≠k)=true:=by simp[e]
   have b:¬ decide (q.1≠k)=true:=by simp[h1.symm.trans e]
   rw[if_neg a,if_neg b]; exact ih
  ·have e':¬ q.1=k:=fun z=>e (h1.trans z)
   have a:decide (p.1≠k)=true:=by simp[e]
   have b:decide (q.1≠k)=true:=by simp[e']
   rw[if_pos a,if_pos b]; exact .cons ⟨h1,h2⟩ ih
theorem KV.keys{kvs:List (κ×V)}{vs:List (κ×Value)}(r:KV kvs vs):kvs.map (·.1)=vs.map (·.1):=by
 unfold KV at r
 induction r with
 |nil=>rfl
 |cons h t ih=>rw[List.map_cons,List.map_cons,ih,h.1]
theorem KV.length{kvs:List (κ×V)}{vs:List (κ×Value)}(r:KV kvs vs):kvs.length=vs.length:=Paired.length r
end
theorem kV_is{P:Program}{w:World}{k:Key}{u:Value}(r:RelV (kV k) u):(mixKind P w).is k u=true:=by
 cases k with
 |inl i=>obtain⟨t,e⟩:=(show ∃ t,u=Value.int i t from r); subst e; exact mixKind_int P w i t
 |inr x=>obtain⟨t,e⟩:=(show ∃ t,u=Value.str x t from r); subst e; exact mixKind_str P w x t
theorem items_are{P:Program}{w:World}:∀ {ks:List Key}{us:List Value},Vals (ks.map kV) us→ItemsAre (mixKind P w) ks us
 |[],_,r=>by rw[List.map_nil]at r; cases r; exact .nil
 |k::ks,_,r=>by
  rw[List.map_cons]at r
  cases r with
  |cons h t=>exact .cons (kV_is h) (items_are t)
abbrev KT(H:Hp):List (List Key×V)→List (List Key×Addr×Value)→Prop:=Paired fun p q=>p.1=q.1∧H q.2.1=some (.tup (p.1.map kV))∧RelV p.2 q.2.2
theorem KT.val{H:Hp}{kvs:List (List Key×V)}{xs:List (List Key×Addr×Value)}(r:KT H kvs xs)(k:List Key):RelO (valV kvs k) ((atKey xs k).map (·.2)):=by
 induction r with
 |nil=>exact True.intro
 |@cons p q ps qs h t ih=>
  obtain⟨h1,_,h2⟩:=h
  by_cases e:p.1=k
  ·have e':q.1=k:=h1.symm.trans e
   have b:atKey (q::qs) k=some q.2:=by simp[atKey,List.find?_cons,e']
   rw[valV_pos e,b]; exact h2
  ·have e':¬ q.1=k:=fun z=>e (h1.trans z)
   have b:atKey (q::qs) k=atKey qs k:=by simp[atKey,List.find?_cons,e']
   rw[valV_neg e,b]; exact ih
theorem KT.repl{H:Hp}{kvs:List (List Key×V)}{xs:List (List Key×Addr×Value)}(r:KT H kvs xs)(k:List Key){y:V}{u:Value}(ry:RelV y u):
  KT H (kvs.map fun kv=>if kv.1=k then(kv.1,y) else kv) (xs.map (putAt k u)):=by
 induction r with
 |nil=>exact .nil
 |@cons p q ps qs h t ih=>
  rw[List.map_cons,List.map_cons]
  refine .cons ?_ ih
  obtain⟨h1,h2,h3⟩:=h
  unfold putAt
  by_cases e:p.1=k
  ·rw[if_pos e,if_pos (h1.symm.trans e)]; exact⟨h1,h2,ry⟩
  ·rw[if_neg e,if_neg (fun z=>e (h1.trans z))]; exact⟨h1,h2,h3⟩
theorem KT.put{H:Hp}{kvs:List (List Key×V)}{xs:List (List Key×Addr×Value)}(r:KT H kvs xs)(k:List Key){b:Addr}{y:V}{u:Value}(hb:H b=some (.tup (k.map kV)))(ry:RelV y u):
  KT H (putK kvs k y) (storedH xs k b u):=by
 have e:(kvs.any fun kv=>decide (kv.1=k))=(atKey xs k).isSome:=by
  rw[valV_any,(r.val k).isSome_eq,Option.isSome_map]
 unfold putK storedH
 rw[e]
 by_cases q:(atKey xs k).isSome=true
 ·rw[if_pos q,if_pos q]; exact r.repl k ry
 ·rw[if_neg q,if_neg q]; exact Paired.snoc r ⟨rfl,hb,ry⟩
theorem KT.keeps{H H':Hp}{kvs:List (List Key×V)}{xs:List (List Key×Addr×Value)}(r:KT H kvs xs)(ht:∀ b ys,H b=some (.tup ys)→H' b=some (.tup ys)):KT H' kvs xs:=
 Paired.mapP r fun _ _ z=>⟨z.1,ht _ _ z.2.1,z.2.2⟩
section
variable {P:Program}{w:World}{H:Hp}{h:Heap}{a:Addr}
theorem rd_of{u:HO}(ok:HOk P w H h)(e:Rd H a u):ObjOk P w H h a u:=e.ok ok
theorem dk_rd{kvs:List (Key×V)}(ok:HOk P w H h)(e:Rd H a (.dK kvs)):kvs.length≤sizeLine∧(a==sysModules)=false∧∃ vs,KV kvs vs∧h.DictOf (mixKind P w) a vs:=
 show ObjOk P w H h a (.dK kvs) from rd_of ok e
theorem dk_of{kvs:List (Key×V)}(ok:HOk P w H h)(e:H a=some (.dK kvs)):kvs.length≤sizeLine∧(a==sysModules)=false∧∃ vs,KV kvs vs∧h.DictOf (mixKind P w) a vs:=dk_rd ok (.inl e)
theorem key_of{ks:List Key}(ok:HOk P w H h)(e:H a=some (.tup (ks.map kV))):(tupleKind (mixKind P w)).is h ks a:=by
 obtain⟨_,its,r,o,h1,h2,n,h3⟩:=(show ObjOk P w H h a (.tup (ks.map kV)) from ok a _ e)
 exact⟨o,its.toArray,n,h1,h2,h3,by simpa using items_are r⟩
theorem dt_rd{kvs:List (List Key×V)}(ok:HOk P w H h)(e:Rd H a (.dT kvs)):kvs.length≤sizeLine∧(a==sysModules)=false∧
  ∃ xs,KT H kvs xs∧h.DictOfH (tupleKind (mixKind P w)) a xs:=by
 obtain⟨z,y,xs,r,o,es,ep,h1,h2,h3,h4,h5⟩:=(show ObjOk P w H h a (.dT kvs) from rd_of ok e)
 refine⟨z,y,xs,r,o,es,ep,h1,h2,h3,h4,fun x hx=>?_,h5⟩
 have all:∀ {l:List (List Key×V)}{m:List (List Key×Addr×Value)},KT H l m→∀ x∈m,(tupleKind (mixKind P w)).is h x.1 x.2.1:=by
  intro l m q
  induction q with
  |nil=>intro x hx; exact nomatch hx
  |@cons p q ps qs hq t ih=>
   intro x hx
   rcases List.mem_cons.mp hx with e|hx
   ·subst e
    exact key_of ok (by rw[← hq.1]; exact hq.2.1)
   ·exact ih x hx
 exact all r x hx
theorem dt_of{kvs:List (List Key×V)}(ok:HOk P w H h)(e:H a=some (.dT kvs)):kvs.length≤sizeLine∧(a==sysModules)=false∧
  ∃ xs,KT H kvs xs∧h.DictOfH (tupleKind (mixKind P w)) a xs:=dt_rd ok (.inl e)
end
def DGet(H:Hp)(a:Addr)(y:V)(r:Option V):Prop:=
 (∃ kvs k,Rd H a (.dK kvs)∧y=kV k∧r=valV kvs k)∨∃ kvs k b,Rd H a (.dT kvs)∧y=.ref b∧H b=some (.tup (k.map kV))∧r=valV kvs k
def DPut(H:Hp)(a:Addr)(y v:V)(H':Hp):Prop:=
 (∃ kvs k,H a=some (.dK kvs)∧y=kV k∧kvs.length<sizeLine∧H'=upd H a (.dK (putK kvs k v)))∨
 ∃ kvs k b,H a=some (.dT kvs)∧y=.ref b∧H b=some (.tup (k.map kV))∧kvs.length<sizeLine∧H'=upd H a (.dT (putK kvs k v))
theorem DGet.k{H:Hp}{a:Addr}{kvs:List (Key×V)}{k:Key}(e:H a=some (.dK kvs)):DGet H a (kV k) (valV kvs k):=.inl ⟨kvs,k,.inl e,rfl,rfl⟩
theorem DGet.t{H:Hp}{a b:Addr}{kvs:List (List Key×V)}{k:List Key}(e:H a=some (.dT kvs))(eb:H b=some (.tup (k.map kV))):DGet H a (.ref b) (valV kvs k):=.inr ⟨kvs,k,b,.inl e,rfl,eb,rfl⟩
theorem DPut.k{H:Hp}{a:Addr}{kvs:List (Key×V)}{k:Key}{v:V}(e:H a=some (.dK kvs))(hl:kvs.length<sizeLine):DPut H a (kV k) v (upd H a (.dK (putK kvs k v))):=.inl ⟨kvs,k,e,rfl,hl,rfl⟩
theorem DPut.t{H:Hp}{a b:Addr}{kvs:List (List Key×V)}{k:List Key}{v:V}(e:H a=some (.dT kvs))(eb:H b=some (.tup (k.map kV)))(hl:kvs.length<sizeLine):
  DPut H a (.ref b) v (upd H a (.dT (putK kvs k v))):=.inr ⟨kvs,k,b,e,rfl,eb,hl,rfl⟩
section
variable {X:Cx}{pins:List (Addr×Obj)}{σ:St}{H:Hp}{s:Shared}{a:Addr}{y v:V}{u r:Value}{o:Option V}{A:Around}{E:Value→Shared→Prop}
theorem Inv.big(I:Inv X pins σ H s):sysModules<s.heap.objs.size:=by
 have h:mainGlobals<s.heap.objs.size:=(I.mod.glob.keeps I.bk).lt
 exact Nat.lt_trans (by decide) h
theorem d_getItem{Q:Value→Shared→Prop}(hu:A.units+1<cLine)(I:Inv X pins σ H s)(g:DGet H a y (some v))(ry:RelV y u)(h:∀ w' s',Inv X pins σ H s'→RelV v w'→Q w' s'):
  wpAny (model X.prog X.w) A (getItem (.ref a) u) Q E s:=by
 rcases g with⟨kvs,k,e,ey,l⟩|⟨kvs,k,b,e,ey,eb,l⟩
 ·subst ey
  obtain⟨z,hd,vs,rel,dd⟩:=dk_rd I.hok e
  obtain⟨w',hw,rw'⟩:=RelO.some_of (v:=v) (o:=valueAt vs k) (by rw[l]; exact rel.val k)
  exact wpAny_getItem_of (kV_is ry) dd.mapOf hw (h w' _ (I.tok _) rw')
 ·subst ey
  cases (show u=Value.ref b from ry)
  obtain⟨z,hd,xs,rel,dd⟩:=dt_rd I.hok e
  obtain⟨w',hw,rw'⟩:=RelO.some_of (v:=v) (o:=(atKey xs k).map (·.2)) (by rw[l]; exact rel.val k)
  obtain⟨p,hp,hp2⟩:=Option.map_eq_some_iff.mp hw
  refine wpAny_getItem_heap (tupleKind_room_in1 hu) (key_of I.hok eb) dd hp ?_
  rw[hp2]
  exact h w' _ (I.tok _) rw'
theorem d_in{Q:Value→Shared→Prop}(hu:A.units+1<cLine)(I:Inv X pins σ H s)(g:DGet H a y o)(ry:RelV y u)(h:∀ s',Inv X pins σ H s'→Q (.bool o.isSome) s'):
  wpAny (model X.prog X.w) A (compareOp .In u (.ref a)) Q E s:=by
 rcases g with⟨kvs,k,e,ey,l⟩|⟨kvs,k,b,e,ey,eb,l⟩
 ·subst ey
  obtain⟨z,hd,vs,rel,dd⟩:=dk_rd I.hok e
  refine wpAny_in_of (kV_is ry) hd dd.mapOf ?_
  rw[← (rel.val k).isSome_eq,← l]
  exact h _ (I.tok _)
 ·subst ey
  cases (show u=Value.ref b from ry)
  obtain⟨z,hd,xs,rel,dd⟩:=dt_rd I.hok e
  refine wpAny_in_heap (tupleKind_room_in1 hu) (key_of I.hok eb) hd dd ?_
  have q:=(rel.val k).isSome_eq
  rw[Option.isSome_map]at q
  rw[← q,← l]
  exact h _ (I.tok _)
theorem d_notIn{Q:Value→Shared→Prop}(hu:A.units+1<cLine)(I:Inv X pins σ H s)(g:DGet H a y o)(ry:RelV y u)(h:∀ s',Inv X pins σ H s'→Q (.bool (!o.isSome)) s'):
  wpAny (model X.prog X.w) A (compareOp .NotIn u (.ref a)) Q E s:=by
 rcases g with⟨kvs,k,e,ey,l⟩|⟨kvs,k,b,e,ey,eb,l⟩
 ·subst ey
  obtain⟨z,hd,vs,rel,dd⟩:=dk_rd I.hok e
  refine wpAny_notIn_of (kV_is ry) hd dd.mapOf ?_
  rw[← (rel.val k).isSome_eq,← l]
  exact h _ (I.tok _)
 ·subst ey
  cases (show u=Value.ref b from ry)
  obtain⟨z,hd,xs,rel,dd⟩:=dt_rd I.hok e
  refine wpAny_notIn_heap (tupleKind_room_in1 hu) (key_of I.hok eb) hd dd ?_
  have q:=(rel.val k).isSome_eq
  rw[Option.isSome_map]at q
  rw[← q,← l]
  exact h _ (I.tok _)
theorem d_write{h':Heap}{t':Nat}{ob:HO}(I:Inv X pins σ H s)(mu:Mut (H a))(hs:Heap.SameBut a s.heap h')(he:∃ q,h'.get? a=some q)(new:ObjOk X.prog X.w (upd H a ob) h' a ob):
  Inv X pins σ (upd H a ob) { s with heap:=h',toks:=t' }:=
 I.write (x:=a) (e:=a) mu (.inl rfl) (fun b q hb z=>(hs.2 b hb).trans z) he new
theorem dk_new{P:Program}{w:World}{H':Hp}{h':Heap}{kvs:List (Key×V)}{vs:List (Key×Value)}(z:kvs.length≤sizeLine)(hd:(a==sysModules)=false)(rel:KV kvs vs)(dd:h'.DictOf (mixKind P w) a vs):
  ObjOk P w H' h' a (.dK kvs):=⟨z,hd,vs,rel,dd⟩
theorem d_setItem{H':Hp}{Q:Unit→Shared→Prop}(hu:A.units+1<cLine)(I:Inv X pins σ H s)(g:DPut H a y v H')(ry:RelV y u)(rv:RelV v r)(h:∀ s',Inv X pins σ H' s'→Q () s'):
  wpAny (model X.prog X.w) A (setItem (.ref a) u r) Q E s:=by
 rcases g with⟨kvs,k,e,ey,l,eH⟩|⟨kvs,k,b,e,ey,eb,l,eH⟩
 ·subst ey eH
  obtain⟨z,hd,vs,rel,dd⟩:=dk_of I.hok e
  have hz:vs.length≤sizeLine:=by rw[← rel.length]; exact z
  have hl:(putK kvs k v).length≤sizeLine:=by have:=length_putK kvs k v; omega
  refine wpAny_setItem_pairs (hsz:=hz) (kV_is ry) dd fun h' dd' hs=>h _ ?_
  have he:∃ q,h'.get? a=some q:=let ⟨q,_,_,hq,_⟩:=dd'; ⟨q,hq⟩
  exact d_write I (by rw[e]; exact True.intro) hs he (dk_new hl hd (rel.put k rv) dd')
 ·subst ey eH
  cases (show u=Value.ref b from ry)
  obtain⟨z,hd,xs,rel,dd⟩:=dt_of I.hok e
  have hz:xs.length≤sizeLine:=by rw[← Paired.length rel]; exact z
  have hl:(putK kvs k v).length≤sizeLine:=by have:=length_putK kvs k v; omega
  refine wpAny_setItem_heap (hsz:=hz) (tupleKind_room_in1 hu) (key_of I.hok eb) dd fun h' dd' hs=>h _ ?_
  obtain⟨q,es,ep,hq,h2,h3,h4,_,h5⟩:=dd'
  refine d_write I (by rw[e]; exact True.intro) hs ⟨q,hq⟩ ⟨hl,hd,_,(rel.put k eb rv).keeps fun c ys ec=>?_,q,es,ep,hq,h2,h3,h4,h5⟩
  rw[upd_ne (ne_of ec e (fun z=>nomatch z))]
  exact ec
end
section
variable {X:Cx}{pins:List (Addr×Obj)}{σ:St}{H:Hp}{s:Shared}{a:Addr}{kvs:List (Key×V)}{k:Key}{u:Value}{A:Around}{E:Value→Shared→Prop}
end
def NoSl(i:Expr):Prop:=∀ ov iv,subscripted i false ov iv=operate [ov,iv] (getItem ov iv)
theorem subD_of{prog:Program}{w:World}{A:Around}{E:Value→Shared→Prop}{s:Shared}{env:Env}{value slice:Expr}{pos:Pos}{T id:String}{Q:Value→Shared→Prop}
  (hl:typeLookup (.type T) "__getitem__" = pure (some (.builtin id))) (hs:NoSl slice)
  (h:wpAny (model prog w) A (eval value env) (fun o s₁=>wpAny (model prog w) A (eval slice env) (fun i s₂=>s₂.TypeIs o T∧wpAny (model prog w) A (getItem o i) Q E s₂) E s₁) E s) :
  wpAny (model prog w) A (eval (.Subscript value slice pos) env) Q E s:=by
 refine Subscript_ (wpAny_mono h (fun o s₁ h₁=>wpAny_mono h₁ (fun i s₂ h₂=>?_) fun _ _ x=>x) fun _ _ x=>x)
 obtain⟨hT,h₂⟩:=h₂
 unfold subscriptTail
 refine wpAny_bind ?_
 rw[getitemInPython_of_ne hT.not_modules]
 refine wpAny_bind (wpAny_specialOf hT hl ?_)
 have fin:wpAny (model prog w) A (subscripted slice false o i) (fun r s₃=>wpAny (model prog w) A (letTemporaryGo value o r >>= fun _=>pure r) Q E s₃) E s₂:=by
  rw[hs o i]
  exact wpAny_operating (wpAny_mono h₂ (fun r s₃ h₃=>wpAny_bind (wpAny_letTemporaryGo (wpAny_pure h₃))) fun _ _ x=>x)
 first
  |exact wpAny_pure (wpAny_bind fin)
  |exact wpAny_bind (wpAny_pure (wpAny_bind fin))
  |exact wpAny_bind fin
theorem dict_typeIs{X:Cx}{pins:List (Addr×Obj)}{σ:St}{H:Hp}{s:Shared}{a:Addr}{y:V}{o:Option V}(I:Inv X pins σ H s)(g:DGet H a y o):s.TypeIs (.ref a) "dict":=by
 rcases g with⟨kvs,k,e,_,_⟩|⟨kvs,k,b,e,_,_,_⟩
 ·obtain⟨_,_,vs,_,dd⟩:=dk_rd I.hok e
  exact dd.typeIs
 ·obtain⟨_,_,xs,_,dd⟩:=dt_rd I.hok e
  exact dd.typeIs
noncomputable def tDGet(td ty:TE):TE:=fun σ H Q=>td σ H fun x H1=>ty σ H1 fun y H2=>∃ a v,x=.ref a∧DGet H2 a y (some v)∧Q v H2
noncomputable def tDIn(ty td:TE):TE:=fun σ H Q=>ty σ H fun y H1=>td σ H1 fun x H2=>∃ a o,x=.ref a∧DGet H2 a y o∧Q (.bl o.isSome) H2
noncomputable def tDNotIn(ty td:TE):TE:=fun σ H Q=>ty σ H fun y H1=>td σ H1 fun x H2=>∃ a o,x=.ref a∧DGet H2 a y o∧Q (.bl (!o.isSome)) H2
noncomputable def sDPut(td ty tv:TE):TS:=fun D σ H=>tv σ H fun v H1=>td σ H1 fun x H2=>ty σ H2 fun y H3=>∃ a H4,x=.ref a∧DPut H3 a y v H4∧D.nx σ H4
section
variable {X:Cx}{o i e value:Expr}{pos pos' tpos:Pos}{td ty tv:TE}
theorem pe_dget(hu:X.A.units+1<cLine)(ho:PE X o td)(hi:PE X i ty)(hs:NoSl i):PE X (.Subscript o i pos) (tDGet td ty):=by
 intro pins s σ H Q I h
 refine subD_of PySem.F.slot_dict_getitem.lookup hs (thn (ho pins s σ H _ I h) fun u s1 ⟨x,H1,I1,rx,q1⟩=>thn (hi pins s1 σ H1 _ I1 q1) fun iv s2 ⟨y,H2,I2,ry,a,v,ex,g,q2⟩=>?_)
 subst ex
 obtain rfl:u=Value.ref a:=rx
 exact⟨dict_typeIs I2 g,d_getItem hu I2 g ry fun w' s3 I3 rw'=>⟨v,H2,I3,rw',q2⟩⟩
theorem pc_din(hu:X.A.units+1<cLine)(hi:PE X i ty)(ho:PE X o td):PC X .In i o (tDIn ty td):=by
 intro pins s σ H Q I h
 refine thn (hi pins s σ H _ I h) fun iv s1 ⟨y,H1,I1,ry,q1⟩=>thn (ho pins s1 σ H1 _ I1 q1) fun u s2 ⟨x,H2,I2,rx,a,ov,ex,g,q2⟩=>?_
 subst ex
 obtain rfl:u=Value.ref a:=rx
 exact d_in hu I2 g ry fun s3 I3=>⟨.bl ov.isSome,H2,I3,rfl,q2⟩
theorem pc_dnotin(hu:X.A.units+1<cLine)(hi:PE X i ty)(ho:PE X o td):PC X .NotIn i o (tDNotIn ty td):=by
 intro pins s σ H Q I h
 refine thn (hi pins s σ H _ I h) fun iv s1 ⟨y,H1,I1,ry,q1⟩=>thn (ho pins s1 σ H1 _ I1 q1) fun u s2 ⟨x,H2,I2,rx,a,ov,ex,g,q2⟩=>?_
 subst ex
 obtain rfl:u=Value.ref a:=rx
 exact d_notIn hu I2 g ry fun s3 I3=>⟨.bl (!ov.isSome),H2,I3,rfl,q2⟩
theorem ps_dput(hu:X.A.units+1<cLine)(ho:PE X o td)(hi:PE X i ty)(hv:PE X value tv)(hs:swapsWith value (some (.Subscript o i pos')) pos.line X.env=pure false):
  PS X (.Assign [.Subscript o i pos'] value pos) (sDPut td ty tv):=by
 intro pins s σ H D I h
 refine wpAny_Assign_Subscript (thn (hv pins s σ H _ I h) fun r s1 ⟨v,H1,I1,rv,q1⟩=>thn (ho pins s1 σ H1 _ I1 q1) fun u s2 ⟨x,H2,I2,rx,q2⟩=>thn (hi pins s2 σ H2 _ I2 q2) fun iv s3 ⟨y,H3,I3,ry,a,H4,ex,g,q3⟩=>?_) hs
 subst ex
 obtain rfl:u=Value.ref a:=rx
 exact d_setItem hu I3 g ry rv fun s4 I4=>⟨σ,H4,I4,q3⟩
end
theorem dk_empty{P:Program}{w:World}{H:Hp}(h:Heap)(hb:sysModules<h.objs.size):ObjOk P w H (h.push { cls:=.type "dict",data:=.dict #[] }) h.objs.size (.dK []):=
 ⟨Nat.zero_le _,beq_eq_false_iff_ne.mpr (Ne.symm (Nat.ne_of_lt hb)),[],.nil,Heap.DictOf.new h⟩
section
variable {X:Cx}{pos:Pos}
end
noncomputable def tPairs:List (TE×TE)→St→Hp→(List (V×V)→Hp→Prop)→Prop
 |[],_,H,Q=>Q [] H
 |(tk,tv)::r,σ,H,Q=>tk σ H fun x H1=>tv σ H1 fun y H2=>tPairs r σ H2 fun ps H3=>Q ((x,y)::ps) H3
abbrev VV:List (V×V)→List (Value×Value)→Prop:=Paired fun p q=>RelV p.1 q.1∧RelV p.2 q.2
def PPs(X:Cx)(pos:Pos)(keys:List (Option Expr))(values:List Expr)(trs:List (TE×TE)):Prop:=
 ∀ (pins:List (Addr×Obj)) (s:Shared) (σ:St) (H:Hp) (Q:List (V×V)→Hp→Prop),Inv X pins σ H s→tPairs trs σ H Q→
  wpAny (model X.prog X.w) X.A (evalPairs (pairTrees keys values X.env pos)) (fun vs s'=>∃ ps H',Inv X pins σ H' s'∧VV ps vs∧Q ps H') X.xe s
theorem pps_nil{X:Cx}{pos:Pos}:PPs X pos [] [] []:=fun pins s σ H Q I h=>pairTrees_nil_walk ⟨[],H,I,.nil,h⟩
theorem pps_cons{X:Cx}{pos:Pos}{k v:Expr}{ks:List (Option Expr)}{vs:List Expr}{tk tv:TE}{trs:List (TE×TE)}(hk:PE X k tk)(hv:PE X v tv)(hr:PPs X pos ks vs trs):
  PPs X pos (some k::ks) (v::vs) ((tk,tv)::trs):=fun pins s σ H Q I h=>
 pairTrees_cons_walk (thn (hk pins s σ H _ I h) fun u s1 ⟨x,H1,I1,rx,q1⟩=>thn (hv pins s1 σ H1 _ I1 q1) fun w2 s2 ⟨y,H2,I2,ry,q2⟩=>
  thn (hr pins s2 σ H2 _ I2 q2) fun ws s3 ⟨ps,H3,I3,rel,q3⟩=>⟨(x,y)::ps,H3,I3,.cons ⟨rx,ry⟩ rel,q3⟩)
noncomputable def mergeK(kvs more:List (Key×V)):List (Key×V):=more.foldl (fun acc kv=>putK acc kv.1 kv.2) kvs
theorem KV.merge:∀ {more:List (Key×V)}{rs:List (Key×Value)}{kvs:List (Key×V)}{vs:List (Key×Value)},KV more rs→KV kvs vs→KV (mergeK kvs more) (merged vs rs):=by
 intro more rs kvs vs r
 unfold KV at r
 induction r generalizing kvs vs with
 |nil=>intro q; exact q
 |@cons p q ps qs h t ih=>
  intro r0
  have e:KV (putK kvs p.1 p.2) (stored vs q.1 q.2):=by
   have:=r0.put p.1 h.2
   rw[← h.1]; exact this
  exact ih e
theorem length_mergeK:∀ (more kvs:List (Key×V)),(mergeK kvs more).length≤kvs.length+more.length
 |[],kvs=>by show kvs.length≤kvs.length+0; omega
 |p::r,kvs=>by
  have h1:=length_mergeK r (putK kvs p.1 p.2)
  have h2:=length_putK kvs p.1 p.2
  show(mergeK (putK kvs p.1 p.2) r).length≤_
  rw[List.length_cons]; omega
theorem carries_of{P:Program}{w:World}:∀ {kvs:List (Key×V)}{ws:List (Value×Value)},VV (kvs.map fun kv=>(kV kv.1,kv.2)) ws→∃ rs,Carries (mixKind P w) ws rs∧KV kvs rs
 |[],_,r=>by rw[List.map_nil]at r; cases r; exact⟨[],True.intro,.nil⟩
 |p::kvs,_,r=>by
  rw[List.map_cons]at r
  cases r with
  |@cons a b as bs h t=>
   obtain⟨rs,c,q⟩:=carries_of (P:=P) (w:=w) t
   obtain⟨b1,b2⟩:=b
   exact⟨(p.1,b2)::rs,⟨kV_is h.1,rfl,c⟩,.cons ⟨rfl,h.2⟩ q⟩
noncomputable def tDisp(trs:List (TE×TE)):TE:=fun σ H Q=>∀ p,H p=none→tPairs trs σ (upd H p (.dK [])) fun ps H2=>H2 p=some (.dK [])∧∃ kvs:List (Key×V),ps=kvs.map (fun kv=>(kV kv.1,kv.2))∧kvs.length≤15∧Q (.ref p) (upd H2 p (.dK (mergeK [] kvs)))
theorem pe_disp{X:Cx}{pos:Pos}{keys:List (Option Expr)}{values:List Expr}{trs:List (TE×TE)}(h:PPs X pos keys values trs)(hall:keys.all (·.isSome)=true)(hl:keys.length=values.length)(h0:keys≠[])
  (h15:keys.length≤15):PE X (.Dict keys values pos) (tDisp trs):=by
 intro pins s σ H Q I q
 have hn:=I.hok.fresh (Nat.le_refl s.heap.objs.size)
 have I1:=I.laid (a:=s.heap.objs.size) (o:=.dK []) (h':=s.heap.push { cls:=.type "dict",data:=.dict #[] }) (t':=s.toks) (fun _ _ q=>Heap.get?_push_of_some _ q) (Nat.le_refl _) (dk_empty s.heap I.big)
 refine wpAny_Dict_walk (knd:=mixKind X.prog X.w) hall hl h0 h15 (thn (h pins _ σ _ _ I1 (q _ hn)) fun ws s2 ⟨ps,H2,I2,rel,e,kvs,ep,lk,q2⟩=>?_)
 subst ep
 obtain⟨rs,c,rk⟩:=carries_of (P:=X.prog) (w:=X.w) rel
 obtain⟨z,hd,vs0,r0,dd⟩:=dk_of I2.hok e
 cases r0
 refine⟨rs,c,dd,fun h' dd' hs=>⟨.ref s.heap.objs.size,_,?_,rfl,q2⟩⟩
 have hz:(mergeK [] kvs).length≤sizeLine:=by
  have h1:=length_mergeK kvs []
  rw[List.length_nil]at h1
  rw[sizeLine_eq]; omega
 have he:∃ q,h'.get? s.heap.objs.size=some q:=let ⟨q,_,_,hq,_⟩:=dd'; ⟨q,hq⟩
 exact d_write I2 (by rw[e]; exact True.intro) hs he (dk_new hz hd (rk.merge .nil) dd')
structure M1 (X:Cx) (o:Expr) (m:Str) (apos:Pos) (e:Expr) (cpos:Pos):Prop where
 base:attributeBase o m X.env (eval o X.env)=eval o X.env
 few:((backTo cpos (starEach [e] X.env)).all (fun x=>!x.1)&&(backToKw cpos (keywordEach [] X.env)).all (fun x=>x.1.isSome)
  && decide (([e]:List Expr).length+([]:List Keyword).length+(if ([]:List Keyword).isEmpty then 0 else 1)<30))=true
 line:(apos.endLine==cpos.line)=true
 trees:backTo cpos (starEach [e] X.env)=[(false,eval e X.env)]
structure M2 (X:Cx) (o:Expr) (m:Str) (apos:Pos) (e f:Expr) (cpos:Pos):Prop where
 base:attributeBase o m X.env (eval o X.env)=eval o X.env
 few:((backTo cpos (starEach [e,f] X.env)).all (fun x=>!x.1)&&(backToKw cpos (keywordEach [] X.env)).all (fun x=>x.1.isSome)
  && decide (([e,f]:List Expr).length+([]:List Keyword).length+(if ([]:List Keyword).isEmpty then 0 else 1)<30))=true
 line:(apos.endLine==cpos.line)=true
 trees:backTo cpos (starEach [e,f] X.env)=[(false,eval e X.env),(false,eval f X.env)]
def IsD(H:Hp)(a:Addr):Prop:=(∃ kvs,Rd H a (.dK kvs))∨∃ kvs,Rd H a (.dT kvs)
theorem isD_at{X:Cx}{pins:List (Addr×Obj)}{σ:St}{H:Hp}{s:Shared}{a:Addr}(I:Inv X pins σ H s)(d:IsD H a):
  s.TypeIs (.ref a) "dict"∧(∀ b,Value.ref a=.ref b→∃ ob,s.heap.get? b=some ob∧ob.dict=none)∧(a==sysModules)=false:=by
 rcases d with⟨kvs,e⟩|⟨kvs,e⟩
 ·obtain⟨_,hd,vs,_,dd⟩:=dk_rd I.hok e
  refine⟨dd.typeIs,fun b q=>?_,hd⟩
  cases q
  obtain⟨ob,_,_,h1,h2,_⟩:=dd
  exact⟨ob,h1,h2.2.1⟩
 ·obtain⟨_,hd,xs,_,dd⟩:=dt_rd I.hok e
  refine⟨dd.typeIs,fun b q=>?_,hd⟩
  cases q
  obtain⟨ob,_,_,h1,h2,_⟩:=dd
  exact⟨ob,h1,h2.2.1⟩
section
variable {X:Cx}{pins:List (Addr×Obj)}{σ:St}{H:Hp}{s:Shared}{a:Addr}{y d:V}{u r:Value}{o:Option V}{A:Around}{E:Value→Shared→Prop}
theorem d_get1{Q:Value→Shared→Prop}(hu:A.units+1<cLine)(I:Inv X pins σ H s)(g:DGet H a y o)(ry:RelV y u)(h:∀ w' s',Inv X pins σ H s'→RelV (o.getD .non) w'→Q w' s'):
  wpAny (model X.prog X.w) A (call (.builtin "dict.get") [.ref a,u]) Q E s:=by
 rcases g with⟨kvs,k,e,ey,l⟩|⟨kvs,k,b,e,ey,eb,l⟩
 ·subst ey
  obtain⟨z,hd,vs,rel,dd⟩:=dk_rd I.hok e
  refine call_meetsIn PySem.F.slot_dict_get dd.typeIs PySem.F.entry_dict_get (PySem.F.args_dict_get_2 _ _) (meets_dict_get (mixKind X.prog X.w) a (kV_is ry) hd) ⟨_,dd.mapOf,h _ _ (I.tok _) ?_⟩
  rw[l]
  exact(rel.val k).getD rfl
 ·subst ey
  cases (show u=Value.ref b from ry)
  obtain⟨z,hd,xs,rel,dd⟩:=dt_rd I.hok e
  refine call_meetsIn PySem.F.slot_dict_get dd.typeIs PySem.F.entry_dict_get (PySem.F.args_dict_get_2 _ _) (meetsH_dict_get (tupleKind (mixKind X.prog X.w)) a b hd) ⟨tupleKind_room_in1 hu,k,xs,key_of I.hok eb,dd,h _ _ (I.tok _) ?_⟩
  rw[l]
  exact(rel.val k).getD rfl
end
noncomputable def tDGet1(td ty:TE):TE:=fun σ H Q=>td σ H fun x H1=>∃ a,x=.ref a∧IsD H1 a∧ty σ H1 fun y H2=>∃ o,DGet H2 a y o∧Q (o.getD .non) H2
section
variable {X:Cx}{o e f:Expr}{apos cpos:Pos}{td ty tx:TE}
theorem pe_dget1(hu:X.A.units+1<cLine)(ho:PE X o td)(he:PE X e ty)(m:M1 X o "get" apos e cpos):PE X (.Call (.Attribute o "get" apos) [e] [] cpos) (tDGet1 td ty):=by
 intro pins s σ H Q I h
 refine wpAny_Call_method m.base m.few m.line PySem.F.plainAttrs_dict PySem.F.slot_dict_get PySem.F.type_dict_get (thn (ho pins s σ H _ I h) fun u s1 ⟨x,H1,I1,rx,a,ex,d,q1⟩=>?_)
 subst ex
 obtain rfl:u=Value.ref a:=rx
 obtain⟨t1,t2,_⟩:=isD_at I1 d
 refine⟨t1,t2,?_⟩
 rw[m.trees]
 refine Calls.callWith_builtin rfl (Calls.evalArgs_plain (Calls.spliced_cons (thn (he pins s1 σ H1 _ I1 q1) fun iv s2 ⟨y,H2,I2,ry,ov,g,q2⟩=>Calls.spliced_nil ?_)))
 exact d_get1 hu I2 g ry fun w' s3 I3 rw'=>⟨_,H2,I3,rw',q2⟩
end
section
variable {X:Cx}{pins:List (Addr×Obj)}{σ:St}{H:Hp}{s:Shared}{a:Addr}{kvs:List (Key×V)}{A:Around}{E:Value→Shared→Prop}
end
section
variable {X:Cx}{pins:List (Addr×Obj)}{σ:St}{H:Hp}{s:Shared}{a:Addr}{y:V}{u:Value}{A:Around}{E:Value→Shared→Prop}
end
end L2
end
section
namespace M
open PySem (Str Operator CmpOp)
inductive D where
 |non|bl (b:Bool)|int (i:Int)|str (s:Str)|tup (ds:List D)|lst (ds:List D)|loc (l:Nat)
 deriving Inhabited
inductive Cell where
 |lst (w:Bool) (ds:List D)
 /-- a dict,its keys ints and texts -/
 |dic (kvs:List (D×D))
 deriving Inhabited
abbrev Store:=List Cell
abbrev Sl:=List (Option D)
noncomputable def lim:Nat:=16777216
inductive Ty where
 |non|bl|int|str|tup|lst
 deriving DecidableEq
noncomputable def Ty.name:Ty→String
 |.non=>"NoneType"
 |.bl=>"bool"
 |.int=>"int"
 |.str=>"str"
 |.tup=>"tuple"
 |.lst=>"list"
inductive B where
 |len|min|max|tuple|list|all|sorted|int|str
inductive Mt where
 |append|find|join|split|extend|index
inductive T where
 |var (i:Nat)
 |tup (is:List Nat)
noncomputable def T.slots:T→List Nat
 |.var i=>[i]
 |.tup is=>is
inductive E where
 |var (i:Nat)
 |lit (d:D)
 |glo (x:Str) (d:D)
 |bin (op:Operator) (a b:E)
 |neg (a:E)
 |not (a:E)
 |cmp (op:CmpOp) (a b:E)
 |cmp2 (op op':CmpOp) (a b c:E)
 |and (a b:E)
 |or (a b:E)
 |ite (c a b:E)
 |tup (es:List E)
 |lst (es:List E)
 |idx (a b:E)
 |sli (a:E) (lo hi:Option E)
 |call (f:Nat) (es:List E)
 |bcall (f:B) (es:List E)
 |isi (a:E) (ts:List Ty) (many:Bool)
 |meth (a:E) (m:Mt) (es:List E)
 /-- what a part made is dropped where nothing else holds it; a list that it tells is a value from then on -/
 |gc (a:E)
 |rng1 (a:E)
 |rng2 (a b:E)
 |rng3 (a b c:E)
 |zip (a b:E)
 /-- a written dict: key,value,key,value .. -/
 |dic (es:List E)
 |didx (a b:E)
 |din (neg:Bool) (a b:E)
 |dgt (a b:E)
 |fmt (a:E)
 |fstr (es:List E)
 /-- of a dict of the file's top: its keys,its values -/
 |gidx (x:Str) (ks:List Str) (ds:List D) (b:E)
 |gin (neg:Bool) (x:Str) (ks:List Str) (b:E)
 /-- the number of unlike things of a tuple of tuples of ints -/
 |lenset (a:E)
 /-- tuples,one behind the other -/
 |cat (a b:E)
 |comp (t:T) (it:E) (test:Option E) (elt:E) (src:List (Option Nat))
inductive S where
 |set (t:T) (e:E)
 |setIx (a i e:E)
 |dset (a i e:E)
 |rais
 |expr (e:E)
 |ret (e:E)
 |retN
 |ite (c:E) (a b:List S)
 |forr (t:T) (it:E) (body:List S)
 |whil (c:E) (body:List S)
 |aug (i:Nat) (op:Operator) (e:E)
 |brk|cnt|pass
structure Fn where
 np:Nat
 nl:Nat
 body:List S
mutual
noncomputable def eqT:D→D→Bool
 |.non,.non=>true
 |.bl a,.bl b=>a==b
 |.bl a,.int j=>(if a then 1 else 0)==j
 |.int i,.bl b=>i==(if b then 1 else 0)
 |.int i,.int j=>i==j
 |.str a,.str b=>a==b
 |.tup a,.tup b=>eqTs a b
 |_,_=>false
noncomputable def eqTs:List D→List D→Bool
 |[],[]=>true
 |a::as,b::bs=>eqT a b&&eqTs as bs
 |_,_=>false
end
mutual
/-- no place of the store within,at most n deep -/
noncomputable def flat:Nat→D→Bool
 |_,.loc _=>false
 |_,.lst _=>false
 |0,.tup _=>false
 |n+1,.tup ds=>flats n ds
 |_,_=>true
noncomputable def flats:Nat→List D→Bool
 |_,[]=>true
 |n,d::ds=>flat n d&&flats n ds
end
noncomputable def mulOk(i j:Int):Bool:=(decide (-(2 ^ 64)<i)&&decide (i<2 ^ 64))||(decide (-(2 ^ 64)<j)&&decide (j<2 ^ 64))
noncomputable def listAt(st:Store)(l:Nat):Option (List D):=match st[l]? with|some (.lst _ ds)=>some ds|_=>none
noncomputable def wlistAt(st:Store)(l:Nat):Option (List D):=match st[l]? with|some (.lst true ds)=>some ds|_=>none
noncomputable def seqAt(st:Store):D→Option (List D)
 |.loc l=>listAt st l
 |.lst ds=>some ds
 |_=>none
mutual
/-- no place of the store within -/
noncomputable def noLoc:D→Bool
 |.loc _=>false
 |.tup ds=>noLocs ds
 |.lst ds=>noLocs ds
 |_=>true
noncomputable def noLocs:List D→Bool
 |[]=>true
 |d::ds=>noLoc d&&noLocs ds
end
open Classical in
noncomputable def gcD(st:Store)(p:D×Store):D×Store:=
 if p.2.take st.length=st then
  if noLoc p.1 then(p.1,st) else match p.1 with
   |.loc l=>if st.length≤l then(match p.2[l]? with
    |some (.lst true ds)=>if noLocs ds then(.lst ds,st) else p
    |_=>p) else p
   |_=>p
 else p
noncomputable def dicAt(st:Store)(l:Nat):Option (List (D×D)):=match st[l]? with|some (.dic kvs)=>some kvs|_=>none
noncomputable def isKey:D→Bool
 |.int _=>true
 |.str _=>true
 |_=>false
noncomputable def dget(kvs:List (D×D))(k:D):Option D:=(kvs.find? fun p=>eqT p.1 k).map (·.2)
noncomputable def dput(kvs:List (D×D))(k v:D):List (D×D):=if kvs.any fun p=>eqT p.1 k then kvs.map (fun p=>if eqT p.1 k then(p.1,v) else p) else kvs++[(k,v)]
noncomputable def pairUp:List D→Option (List (D×D))
 |[]=>some []
 |k::v::r=>if isKey k then(pairUp r).map ((k,v)::·) else none
 |_=>none
noncomputable def dall(kvs:List (D×D)):List (D×D):=kvs.foldl (fun acc p=>dput acc p.1 p.2) []
noncomputable def alloc(st:Store)(c:Cell):D×Store:=(.loc st.length,st++[c])
noncomputable def binop(st:Store):Operator→D→D→Option (D×Store)
 |.Add,.int i,.int j=>some (.int (i+j),st)
 |.Add,.tup a,.tup b=>if a.isEmpty||decide (lim<a.length+b.length) then none else some (.tup (a++b),st)
 |.Add,.str a,.str b=>if lim<a.length+b.length then none else some (.str (a++b),st)
 |.Add,a,b=>(seqAt st a).bind fun x=>(seqAt st b).bind fun y=>if lim<x.length+y.length then none else some (alloc st (.lst true (x++y)))
 |.Sub,.int i,.int j=>some (.int (i - j),st)
 |.Mult,.int i,.int j=>if mulOk i j then some (.int (i*j),st) else none
 |.Mult,.tup a,.int k=>if decide (k < -(2 ^ 62))||decide (2 ^ 62≤k)||decide (lim<a.length*k.toNat) then none else some (.tup (List.replicate k.toNat a).flatten,st)
 |.Mult,.loc l,.int k=>(wlistAt st l).bind fun a=>if decide (k < -(2 ^ 62))||decide (2 ^ 62≤k)||decide (lim<a.length*k.toNat) then none else some (alloc st (.lst true (List.replicate k.toNat a).flatten))
 |.FloorDiv,.int i,.int j=>if 0<j∧j<2 ^ 64 then some (.int (i / j),st) else none
 |.Mod,.int i,.int j=>if 0<j then some (.int (i % j),st) else none
 |.Pow,.int i,.int j=>if 0≤j∧j≤1000∧i.natAbs<2 ^ 64 then some (.int (i ^ j.toNat),st) else none
 |_,_,_=>none
noncomputable def addK(S:List (List Int))(k:List Int):List (List Int):=if k∈S then S else S++[k]
noncomputable def distinct(ks:List (List Int)):List (List Int):=ks.foldl addK []
noncomputable def keyD:D→Option (List Int)
 |.tup ds=>ds.mapM fun d=>match d with|.int i=>some i|_=>none
 |_=>none
noncomputable def lensetD:D→Option D
 |.tup ds=>(ds.mapM keyD).bind fun ks=>if ds.length≤16 then some (.int (distinct ks).length) else none
 |_=>none
noncomputable def catT(st:Store):D→D→Option (D×Store)
 |.tup a,.tup b=>if lim<a.length+b.length then none else some (.tup (a++b),st)
 |_,_=>none
noncomputable def ixN(n:Nat)(i:Int):Option Nat:=if 0≤i then(if i<n then some i.toNat else none) else if -(n:Int)≤i then some (i+n).toNat else none
noncomputable def atI{α:Type}(xs:List α)(i:Int):Option α:=(ixN xs.length i).bind fun j=>xs[j]?
noncomputable def idxD(st:Store):D→D→Option D
 |.tup ds,.int i=>atI ds i
 |.str z,.int i=>if lim<z.length then none else(atI z.cps.toList i).map fun c=>.str ⟨#[c]⟩
 |d,.int i=>(seqAt st d).bind fun ds=>atI ds i
 |_,_=>none
noncomputable def cutIx(n d:Nat):Option Int→Nat
 |none=>d
 |some v=>if v<0 then(v+(n:Int)).toNat else min v.toNat n
noncomputable def cut{α:Type}(xs:List α)(lo hi:Option Int):List α:=(xs.drop (cutIx xs.length 0 lo)).take (cutIx xs.length xs.length hi - cutIx xs.length 0 lo)
noncomputable def oneOf(z:Str):Option Nat:=match z.cps.toList with
 |[c]=>some c
 |_=>none
noncomputable def sliD(st:Store):D→Option Int→Option Int→Option (D×Store)
 |.tup ds,lo,hi=>some (.tup (cut ds lo hi),st)
 |.str z,lo,hi=>if lim<z.length then none else some (.str ⟨(cut z.cps.toList lo hi).toArray⟩,st)
 |d,lo,hi=>(seqAt st d).map fun ds=>alloc st (.lst true (cut ds lo hi))
noncomputable def inD(st:Store)(x:D):D→Option Bool
 |.tup ds=>if flat 9 x&&flats 9 ds then some (ds.any fun y=>eqT y x) else none
 |.str z=>match x with
  |.str i=>(oneOf i).map fun c=>decide (c∈z.cps.toList)
  |_=>none
 |d=>(seqAt st d).bind fun ds=>if flat 9 x&&flats 9 ds then some (ds.any fun y=>eqT y x) else none
noncomputable def eqD(st:Store)(x y:D):Option Bool:=match seqAt st x,seqAt st y with
 |some a,some b=>if flats 9 a&&flats 9 b then some (eqTs a b) else none
 |_,_=>if flat 9 x&&flat 9 y then some (eqT x y) else none
noncomputable def neD(st:Store)(a b:D):Option Bool:=(eqD st a b).map (!·)
noncomputable def isNon:D→Bool
 |.non=>true
 |_=>false
noncomputable def cmpD(st:Store):CmpOp→D→D→Option Bool
 |.Lt,.int i,.int j=>some (decide (i<j))
 |.LtE,.int i,.int j=>some (decide (i≤j))
 |.Gt,.int i,.int j=>some (decide (j<i))
 |.GtE,.int i,.int j=>some (decide (j≤i))
 |.Eq,x,y=>eqD st x y
 |.NotEq,x,y=>neD st x y
 |.Is,x,.non=>some (isNon x)
 |.IsNot,x,.non=>some (!isNon x)
 |.In,x,y=>inD st x y
 |.NotIn,x,y=>(inD st x y).map (!·)
 |_,_,_=>none
noncomputable def tyName(st:Store):D→Option Ty
 |.non=>some .non
 |.bl _=>some .bl
 |.int _=>some .int
 |.str _=>some .str
 |.tup _=>some .tup
 |d=>(seqAt st d).map fun _=>.lst
noncomputable def tyIs(t n:Ty):Bool:=t==n||(t==.int&&n==.bl)
noncomputable def truth(st:Store):D→Option Bool
 |.non=>some false
 |.bl b=>some b
 |.int i=>some (i != 0)
 |.tup ds=>some (!ds.isEmpty)
 |.str z=>if lim<z.length then none else some ((z.length:Int) != 0)
 |d=>(seqAt st d).map fun ds=>!ds.isEmpty
noncomputable def insInt(x:Int):List Int→List Int
 |[]=>[x]
 |y::r=>if x≤y then x::y::r else y::insInt x r
noncomputable def sortInt:List Int→List Int
 |[]=>[]
 |x::r=>insInt x (sortInt r)
noncomputable def asInts:List D→Option (List Int)
 |[]=>some []
 |.int i::r=>(asInts r).map (i::·)
 |_=>none
noncomputable def asBools:List D→Option (List Bool)
 |[]=>some []
 |.bl i::r=>(asBools r).map (i::·)
 |_=>none
noncomputable def bLen(st:Store):List D→Option (D×Store)
 |[.tup ds]=>some (.int ds.length,st)
 |[.str z]=>if lim<z.length then none else some (.int z.length,st)
 |[d]=>(seqAt st d).map fun ds=>(.int ds.length,st)
 |_=>none
noncomputable def augD(st:Store):Operator→D→D→Option D
 |.Add,.int i,.int j=>some (.int (i+j))
 |.Sub,.int i,.int j=>some (.int (i - j))
 |.Mult,.int i,.int j=>if mulOk i j then some (.int (i*j)) else none
 |.Add,.str a,.str b=>if lim<a.length+b.length then none else some (.str (a++b))
 |_,_,_=>none
noncomputable def bMin(st:Store):List D→Option (D×Store)
 |[.int i,.int j]=>some (.int (if j<i then j else i),st)
 |_=>none
noncomputable def bMax(st:Store):List D→Option (D×Store)
 |[.int i,.int j]=>some (.int (if j > i then j else i),st)
 |_=>none
noncomputable def bTuple(st:Store):List D→Option (D×Store)
 |[.tup ds]=>some (.tup ds,st)
 |[d]=>(seqAt st d).map fun ds=>(.tup ds,st)
 |_=>none
noncomputable def bList(st:Store):List D→Option (D×Store)
 |[.tup ds]=>some (alloc st (.lst true ds))
 |[d]=>(seqAt st d).map fun ds=>alloc st (.lst true ds)
 |_=>none
noncomputable def bAll(st:Store):List D→Option (D×Store)
 |[d]=>(seqAt st d).bind fun ds=>(asBools ds).map fun bs=>(.bl (bs.all id),st)
 |_=>none
noncomputable def bSorted(st:Store):List D→Option (D×Store)
 |[d]=>(seqAt st d).bind fun ds=>(if 64≤ds.length then none else asInts ds).map fun ns=>alloc st (.lst true ((sortInt ns).map .int))
 |_=>none
noncomputable def isFig(c:Nat):Bool:=decide (48≤c)&&decide (c≤57)
noncomputable def figVal(cs:List Nat):Nat:=cs.foldl (fun acc c=>acc*10+(c - 48)) 0
noncomputable def bInt(st:Store):List D→Option (D×Store)
 |[.str z]=>if !z.cps.toList.isEmpty&&z.cps.toList.all isFig&&decide (z.length≤640) then some (.int (figVal z.cps.toList:Nat),st) else none
 |[.int i]=>some (.int i,st)
 |_=>none
noncomputable def bStr(st:Store):List D→Option (D×Store)
 |[.int i]=>if i.natAbs.log2<1920 then some (.str (Str.ofString (toString i)),st) else none
 |[.str z]=>some (.str z,st)
 |_=>none
noncomputable def splitC(c:Nat):List Nat→List (List Nat)
 |[]=>[[]]
 |x::r=>if x=c then []::splitC c r else match splitC c r with
  |[]=>[[x]]
  |p::ps=>(x::p)::ps
noncomputable def mSplit(st:Store):D→List D→Option (D×Store)
 |.str z,[.str y]=>(oneOf y).bind fun c=>if z.length<1000000 then some (alloc st (.lst true ((splitC c z.cps.toList).map fun p=>.str ⟨p.toArray⟩))) else none
 |_,_=>none
noncomputable def fmtD:D→Option D
 |.int i=>if i.natAbs.log2<1920 then some (.str (Str.ofString (toString i))) else none
 |.str z=>if z.length≤lim then some (.str z) else none
 |_=>none
noncomputable def catD:List D→Str→Option Str
 |[],acc=>some acc
 |.str z::r,acc=>if (acc++z).length≤lim then catD r (acc++z) else none
 |_,_=>none
noncomputable def asStrs:List D→Option (List Str)
 |[]=>some []
 |.str i::r=>(asStrs r).map (i::·)
 |_=>none
noncomputable def findC(cs:List Nat)(c:Nat):Int:=match cs.findIdx? (· == c) with
 |some i=>(i:Int)
 |none=>-1
noncomputable def mFind(st:Store):D→List D→Option (D×Store)
 |.str z,[.str y]=>(oneOf y).map fun c=>(.int (findC z.cps.toList c),st)
 |_,_=>none
noncomputable def mJoin(st:Store):D→List D→Option (D×Store)
 |.str z,[d]=>(seqAt st d).bind fun ds=>(asStrs ds).bind fun ts=>if (ts.map (·.length)).sum+ts.length*z.length≤lim then some (.str (Str.join z ts),st) else none
 |_,_=>none
noncomputable def bfun(st:Store):B→List D→Option (D×Store)
 |.len=>bLen st
 |.min=>bMin st
 |.max=>bMax st
 |.tuple=>bTuple st
 |.list=>bList st
 |.all=>bAll st
 |.sorted=>bSorted st
 |.int=>bInt st
 |.str=>bStr st
noncomputable def mAppend(st:Store):D→List D→Option (D×Store)
 |.loc l,[d]=>(wlistAt st l).bind fun ds=>if ds.length<lim then some (.non,st.set l (.lst true (ds++[d]))) else none
 |_,_=>none
noncomputable def mExtend(st:Store):D→List D→Option (D×Store)
 |.loc l,[d]=>(wlistAt st l).bind fun ds=>(match d with|.tup es=>some es|d=>seqAt st d).bind fun es=>if ds.length+es.length≤lim then some (.non,st.set l (.lst true (ds++es))) else none
 |_,_=>none
noncomputable def mIndex(st:Store):D→List D→Option (D×Store)
 |d,[x]=>(seqAt st d).bind fun ds=>if flat 9 x&&flats 9 ds then(ds.findIdx? fun y=>eqT y x).map fun(j:Nat)=>(.int (j:Int),st) else none
 |_,_=>none
noncomputable def mfun(st:Store):Mt→D→List D→Option (D×Store)
 |.append=>mAppend st
 |.find=>mFind st
 |.join=>mJoin st
 |.split=>mSplit st
 |.extend=>mExtend st
 |.index=>mIndex st
noncomputable def Mt.ofList:Mt→Bool
 |.append=>true
 |.extend=>true
 |.index=>true
 |_=>false
noncomputable def mty(st:Store)(m:Mt):D→Bool
 |.str _=>!m.ofList
 |d=>m.ofList&&(seqAt st d).isSome
noncomputable def setIxD(st:Store):D→D→D→Option Store
 |.loc l,.int i,d=>(wlistAt st l).bind fun ds=>(ixN ds.length i).map fun j=>st.set l (.lst true (ds.set j d))
 |_,_,_=>none
inductive Out where
 |nx (τ:Sl)
 |rt (d:D)
 |bk (τ:Sl)
 |ct (τ:Sl)
structure R where
 ev:Sl→Store→E→Option (D×Store)
 tst:Sl→Store→E→Option (Bool×Store)
 ex:Sl→Store→List S→Option (Out×Store)
 call:Nat→List D→Store→Option (D×Store)
noncomputable def evs(f:Store→E→Option (D×Store)):List E→Store→Option (List D×Store)
 |[],st=>some ([],st)
 |e::es,st=>(f st e).bind fun p=>(evs f es p.2).bind fun q=>some (p.1::q.1,q.2)
noncomputable def setIs:List Nat→List D→Sl→Option Sl
 |[],[],τ=>some τ
 |i::is,d::ds,τ=>if i<τ.length then setIs is ds (τ.set i (some d)) else none
 |_,_,_=>none
noncomputable def setT:T→D→Sl→Option Sl
 |.var i,d,τ=>if i<τ.length then some (τ.set i (some d)) else none
 |.tup is,.tup ds,τ=>setIs is ds τ
 |_,_,_=>none
inductive Src where
 |tup (ds:List D)
 |lst (d:D)
 |rng (lo:Int) (n:Nat)
 |rgs (lo c:Int) (n:Nat)
 |zip (a b:D)
 |str (z:Str)
noncomputable def rowAt(st:Store):D→Option (List D)
 |.tup ds=>some ds
 |d=>seqAt st d
noncomputable def pairAt(xs ys:List D)(i:Nat):Option D:=match xs[i]?,ys[i]? with
 |some x,some y=>some (.tup [x,y])
 |_,_=>none
noncomputable def Src.at(st:Store)(i:Nat):Src→Option (Option D)
 |.tup ds=>some ds[i]?
 |.lst d=>(seqAt st d).map fun ds=>ds[i]?
 |.rng lo n=>some (if i<n then some (.int (lo+i)) else none)
 |.rgs lo c n=>some (if i<n then some (.int (lo+i*c)) else none)
 |.zip a b=>(rowAt st a).bind fun xs=>(rowAt st b).map fun ys=>pairAt xs ys i
 |.str z=>some ((z.cps.toList.map fun c=>D.str ⟨#[c]⟩)[i]?)
noncomputable def Src.size(st:Store):Src→Nat
 |.tup ds=>ds.length
 |.lst d=>((seqAt st d).getD []).length
 |.rng _ n=>n
 |.rgs _ _ n=>n
 |.str z=>z.cps.toList.length
 |.zip a b=>min ((rowAt st a).getD []).length ((rowAt st b).getD []).length
noncomputable def big(i:Int):Bool:=decide (i < -(2 ^ 62))||decide (2 ^ 62≤i)
noncomputable def src(r:R)(τ:Sl)(st:Store):E→Option (Src×Store)
 |.rng1 a=>(r.ev τ st a).bind fun p=>match p.1 with
  |.int n=>if big n then none else some (.rng 0 n.toNat,p.2)
  |_=>none
 |.rng2 a b=>(r.ev τ st a).bind fun p=>(r.ev τ p.2 b).bind fun q=>match p.1,q.1 with
  |.int i,.int j=>if big i||big j then none else some (.rng i (j - i).toNat,q.2)
  |_,_=>none
 |.rng3 a b c=>(r.ev τ st a).bind fun p=>(r.ev τ p.2 b).bind fun q=>(r.ev τ q.2 c).bind fun u=>match p.1,q.1,u.1 with
  |.int i,.int j,.int k=>if big i||big j || !(decide (0<k)&&decide (k<1000)) then none else some (.rgs i k (if i<j then(j - i - 1) / k+1 else 0).toNat,u.2)
  |_,_,_=>none
 |.zip a b=>(r.ev τ st a).bind fun p=>(r.ev τ p.2 b).bind fun q=>(rowAt q.2 p.1).bind fun _=>(rowAt q.2 q.1).map fun _=>(.zip p.1 q.1,q.2)
 |e=>(r.ev τ st e).bind fun p=>match p.1 with
  |.tup ds=>some (.tup ds,p.2)
  |.str z=>if z.cps.all (· < 128) then some (.str z,p.2) else none
  |d=>(seqAt p.2 d).map fun _=>(.lst d,p.2)
noncomputable def loop(it:Src)(f:Sl→Store→D→Option (Out×Store)):Nat→Nat→Sl→Store→Option (Out×Store)
 |0,_,_,_=>none
 |k+1,i,τ,st=>(it.at st i).bind fun o=>match o with
  |none=>some (.nx τ,st)
  |some d=>(f τ st d).bind fun p=>match p.1 with
   |.nx τ'=>loop it f k (i+1) τ' p.2
   |.ct τ'=>loop it f k (i+1) τ' p.2
   |.bk τ'=>some (.nx τ',p.2)
   |.rt v=>some (.rt v,p.2)
noncomputable def turnC(r:R)(t:T)(test:Option E)(elt:E)(τ:Sl)(st:Store)(d:D):Option (Option D×Sl×Store):=
 (setT t d τ).bind fun τ'=>match test with
  |none=>(r.ev τ' st elt).map fun p=>(some p.1,τ',p.2)
  |some c=>(r.tst τ' st c).bind fun b=>if b.1 then(r.ev τ' b.2 elt).map fun p=>(some p.1,τ',p.2) else some (none,τ',b.2)
noncomputable def loopC(it:Src)(f:Sl→Store→D→Option (Option D×Sl×Store)):Nat→Nat→List D→Sl→Store→Option (List D×Store)
 |0,_,_,_,_=>none
 |k+1,i,acc,τ,st=>(it.at st i).bind fun o=>match o with
  |none=>if lim<acc.length then none else some (acc,st)
  |some d=>if lim≤acc.length then none else(f τ st d).bind fun p=>loopC it f k (i+1) (match p.1 with|some x=>acc++[x]|none=>acc) p.2.1 p.2.2
noncomputable def inner(src:List (Option Nat))(τ:Sl):Sl:=src.map fun o=>o.bind fun i=>(τ[i]?).bind id
noncomputable def part(r:R)(τ:Sl)(st:Store):Option E→Option (Option Int×Store)
 |none=>some (none,st)
 |some e=>(r.ev τ st e).bind fun p=>match p.1 with
  |.int i=>some (some i,p.2)
  |_=>none
noncomputable def loopW(f:Sl→Store→Option (Bool×Store))(g:Sl→Store→Option (Out×Store)):Nat→Sl→Store→Option (Out×Store)
 |0,_,_=>none
 |k+1,τ,st=>(f τ st).bind fun b=>if b.1 then(g τ b.2).bind fun p=>match p.1 with
   |.nx τ'=>loopW f g k τ' p.2
   |.ct τ'=>loopW f g k τ' p.2
   |.bk τ'=>some (.nx τ',p.2)
   |.rt v=>some (.rt v,p.2)
  else some (.nx τ,b.2)
noncomputable def dinR(r:R)(τ:Sl)(st:Store)(neg:Bool)(a b:E):Option (D×Store):=
 (r.ev τ st a).bind fun p=>(r.ev τ p.2 b).bind fun q=>match q.1 with
  |.loc l=>(dicAt q.2 l).bind fun kvs=>if isKey p.1 then some (.bl ((dget kvs p.1).isSome != neg),q.2) else none
  |_=>none
noncomputable def ginR(r:R)(τ:Sl)(st:Store)(neg:Bool)(ks:List Str)(b:E):Option (D×Store):=
 (r.ev τ st b).bind fun p=>match p.1 with
  |.str z=>some (.bl (ks.contains z != neg),p.2)
  |_=>none
noncomputable def stepEv(r:R)(τ:Sl)(st:Store):E→Option (D×Store)
 |.var i=>match τ[i]? with
  |some (some d)=>some (d,st)
  |_=>none
 |.lit d=>some (d,st)
 |.glo _ d=>some (d,st)
 |.bin op a b=>(r.ev τ st a).bind fun p=>(r.ev τ p.2 b).bind fun q=>binop q.2 op p.1 q.1
 |.neg a=>(r.ev τ st a).bind fun p=>match p.1 with
  |.int i=>some (.int (-i),p.2)
  |_=>none
 |.not a=>(r.ev τ st a).bind fun p=>match p.1 with
  |.bl b=>some (.bl (!b),p.2)
  |_=>none
 |.cmp op a b=>(r.ev τ st a).bind fun p=>(r.ev τ p.2 b).bind fun q=>(cmpD q.2 op p.1 q.1).map fun k=>(.bl k,q.2)
 |.cmp2 op op' a b c=>(r.ev τ st a).bind fun p=>(r.ev τ p.2 b).bind fun q=>(cmpD q.2 op p.1 q.1).bind fun k=>
   if k then(r.ev τ q.2 c).bind fun u=>(cmpD u.2 op' q.1 u.1).map fun k'=>(.bl k',u.2) else some (.bl false,q.2)
 |.and a b=>(r.ev τ st a).bind fun p=>match p.1 with
  |.bl true=>r.ev τ p.2 b
  |.bl false=>some (.bl false,p.2)
  |_=>none
 |.or a b=>(r.ev τ st a).bind fun p=>match p.1 with
  |.bl false=>r.ev τ p.2 b
  |.bl true=>some (.bl true,p.2)
  |_=>none
 |.ite c a b=>(r.tst τ st c).bind fun p=>if p.1 then r.ev τ p.2 a else r.ev τ p.2 b
 |.tup es=>(evs (r.ev τ) es st).bind fun p=>if lim<p.1.length then none else some (.tup p.1,p.2)
 |.lst es=>(evs (r.ev τ) es st).bind fun p=>if lim<p.1.length then none else some (alloc p.2 (.lst true p.1))
 |.idx a b=>(r.ev τ st a).bind fun p=>(r.ev τ p.2 b).bind fun q=>(idxD q.2 p.1 q.1).map fun d=>(d,q.2)
 |.sli a lo hi=>(r.ev τ st a).bind fun p=>(part r τ p.2 lo).bind fun l=>(part r τ l.2 hi).bind fun h=>sliD h.2 p.1 l.1 h.1
 |.call f es=>(evs (r.ev τ) es st).bind fun p=>r.call f p.1 p.2
 |.bcall f es=>(evs (r.ev τ) es st).bind fun p=>bfun p.2 f p.1
 |.isi a ts _=>(r.ev τ st a).bind fun p=>(tyName p.2 p.1).map fun n=>(.bl (ts.any fun t=>tyIs t n),p.2)
 |.meth a m es=>(r.ev τ st a).bind fun p=>if mty p.2 m p.1 then(evs (r.ev τ) es p.2).bind fun q=>mfun q.2 m p.1 q.1 else none
 |.gc a=>(r.ev τ st a).map fun p=>gcD st p
 |.rng1 _=>none
 |.rng2 _ _=>none
 |.rng3 _ _ _=>none
 |.zip _ _=>none
 |.dic es=>(evs (r.ev τ) es (st++[.dic []])).bind fun p=>match dicAt p.2 st.length with
  |some []=>(pairUp p.1).bind fun kvs=>if kvs.length≤15 then some (.loc st.length,p.2.set st.length (.dic (dall kvs))) else none
  |_=>none
 |.didx a b=>(r.ev τ st a).bind fun p=>(r.ev τ p.2 b).bind fun q=>match p.1 with
  |.loc l=>(dicAt q.2 l).bind fun kvs=>if isKey q.1 then(dget kvs q.1).map fun d=>(d,q.2) else none
  |_=>none
 |.din neg a b=>dinR r τ st neg a b
 |.dgt a b=>(r.ev τ st a).bind fun p=>match p.1 with
  |.loc l=>(dicAt p.2 l).bind fun _=>(r.ev τ p.2 b).bind fun q=>(dicAt q.2 l).bind fun kvs=>if isKey q.1 then some ((dget kvs q.1).getD .non,q.2) else none
  |_=>none
 |.fmt a=>(r.ev τ st a).bind fun p=>(fmtD p.1).map fun d=>(d,p.2)
 |.fstr es=>(evs (r.ev τ) es st).bind fun p=>(catD p.1 Str.empty).map fun z=>(.str z,p.2)
 |.gidx _ ks ds b=>(r.ev τ st b).bind fun p=>match p.1 with
  |.str z=>((ks.zip ds).find? fun q=>q.1==z).map fun q=>(q.2,p.2)
  |_=>none
 |.gin neg _ ks b=>ginR r τ st neg ks b
 |.lenset a=>(r.ev τ st a).bind fun p=>(lensetD p.1).map fun d=>(d,p.2)
 |.cat a b=>(r.ev τ st a).bind fun p=>(r.ev τ p.2 b).bind fun q=>catT q.2 p.1 q.1
 |.comp t it test elt sr=>(src r τ st it).bind fun p=>
   (loopC p.1 (turnC r t test elt) (p.1.size p.2+1) 0 [] (inner sr τ) p.2).map fun q=>alloc q.2 (.lst true q.1)
noncomputable def stepTst(r:R)(τ:Sl)(st:Store):E→Option (Bool×Store)
 |.not a=>(r.tst τ st a).map fun p=>(!p.1,p.2)
 |.and a b=>(r.tst τ st a).bind fun p=>if p.1 then r.tst τ p.2 b else some (false,p.2)
 |.or a b=>(r.tst τ st a).bind fun p=>if p.1 then some (true,p.2) else r.tst τ p.2 b
 |.ite _ _ _=>none
 |.din neg a b=>(dinR r τ st neg a b).bind fun p=>(truth p.2 p.1).map fun k=>(k,p.2)
 |.gin neg _ ks b=>(ginR r τ st neg ks b).bind fun p=>(truth p.2 p.1).map fun k=>(k,p.2)
 |.cmp op a b=>(r.ev τ st a).bind fun p=>(r.ev τ p.2 b).bind fun q=>(cmpD q.2 op p.1 q.1).map fun k=>(k,q.2)
 |.cmp2 op op' a b c=>(r.ev τ st a).bind fun p=>(r.ev τ p.2 b).bind fun q=>(cmpD q.2 op p.1 q.1).bind fun k=>
   if k then(r.ev τ q.2 c).bind fun u=>(cmpD u.2 op' q.1 u.1).map fun k'=>(k',u.2) else some (false,q.2)
 |e=>(r.ev τ st e).bind fun p=>(truth p.2 p.1).map fun k=>(k,p.2)
noncomputable def stepEx(r:R)(τ:Sl)(st:Store):S→Option (Out×Store)
 |.set t e=>(r.ev τ st e).bind fun p=>(setT t p.1 τ).map fun τ'=>(.nx τ',p.2)
 |.setIx a i e=>(r.ev τ st e).bind fun p=>(r.ev τ p.2 a).bind fun q=>(r.ev τ q.2 i).bind fun u=>(setIxD u.2 q.1 u.1 p.1).map fun st'=>(.nx τ,st')
 |.dset a i e=>(r.ev τ st e).bind fun p=>(r.ev τ p.2 a).bind fun q=>(r.ev τ q.2 i).bind fun u=>match q.1 with
  |.loc l=>(dicAt u.2 l).bind fun kvs=>if isKey u.1&&decide (kvs.length<lim) then some (.nx τ,u.2.set l (.dic (dput kvs u.1 p.1))) else none
  |_=>none
 |.rais=>none
 |.expr e=>(r.ev τ st e).map fun p=>(.nx τ,p.2)
 |.ret e=>(r.ev τ st e).map fun p=>(.rt p.1,p.2)
 |.retN=>some (.rt .non,st)
 |.ite c a b=>(r.tst τ st c).bind fun p=>if p.1 then r.ex τ p.2 a else r.ex τ p.2 b
 |.forr t it body=>(src r τ st it).bind fun p=>
   loop p.1 (fun τ st d=>(setT t d τ).bind fun τ'=>r.ex τ' st body) (p.1.size p.2+1) 0 τ p.2
 |.whil c body=>loopW (fun τ st=>r.tst τ st c) (fun τ st=>r.ex τ st body) lim τ st
 |.aug i op e=>match τ[i]? with
  |some (some x)=>(r.ev τ st e).bind fun p=>(augD p.2 op x p.1).map fun z=>(.nx (τ.set i (some z)),p.2)
  |_=>none
 |.brk=>some (.bk τ,st)
 |.cnt=>some (.ct τ,st)
 |.pass=>some (.nx τ,st)
noncomputable def exs(f:Sl→Store→S→Option (Out×Store)):List S→Sl→Store→Option (Out×Store)
 |[],τ,st=>some (.nx τ,st)
 |s::ss,τ,st=>(f τ st s).bind fun p=>match p.1 with
  |.nx τ'=>exs f ss τ' p.2
  |o=>some (o,p.2)
noncomputable def stepCall(fns:List Fn)(r:R)(f:Nat)(ds:List D)(st:Store):Option (D×Store):=
 match fns[f]? with
 |some F=>if ds.length=F.np then(r.ex (ds.map some++List.replicate (F.nl - ds.length) none) st F.body).bind fun p=>match p.1 with
   |.rt d=>some (d,p.2)
   |.nx _=>some (.non,p.2)
   |_=>none
  else none
 |none=>none
noncomputable def step(c:Nat→List D→Store→Option (D×Store))(r:R):R:=⟨stepEv r,stepTst r,fun τ st ss=>exs (stepEx r) ss τ st,c⟩
noncomputable def runK(c:Nat→List D→Store→Option (D×Store)):Nat→R
 |0=>⟨fun _ _ _=>none,fun _ _ _=>none,fun _ _ _=>none,c⟩
 |k+1=>step c (runK c k)
open Classical in
noncomputable def lim1{α:Type}(f:Nat→Option α):Option α:=if h:∃ x,∃ n,f n=some x then some h.choose else none
noncomputable def RL(c:Nat→List D→Store→Option (D×Store)):R:=⟨fun τ st e=>lim1 fun n=>(runK c n).ev τ st e,fun τ st e=>lim1 fun n=>(runK c n).tst τ st e,fun τ st e=>lim1 fun n=>(runK c n).ex τ st e,c⟩
noncomputable def callD(fns:List Fn):Nat→Nat→List D→Store→Option (D×Store)
 |0=>fun _ _ _=>none
 |d+1=>stepCall fns (RL (callD fns d))
noncomputable abbrev rn(fns:List Fn)(d n:Nat):R:=runK (callD fns d) n
noncomputable abbrev Lv(fns:List Fn)(d:Nat):R:=RL (callD fns d)
theorem lim1_is{α:Type}{f:Nat→Option α}{x:α}(h:lim1 f=some x):∃ n,f n=some x:=by
 unfold lim1 at h
 split at h
 ·rename_i hx
  obtain⟨n,hn⟩:=hx.choose_spec
  exact⟨n,by rw[hn]; exact h⟩
 ·cases h
theorem runK_call(c:Nat→List D→Store→Option (D×Store)):∀ n,(runK c n).call=c
 |0=>rfl
 |_+1=>rfl
end M
end
section
namespace M
open PySem (Str)
theorem exs_split:∀ (a:List S){b:List S}{f:Sl→Store→S→Option (Out×Store)}{τ τ':Sl}{s s':Store},exs f a τ s=some (.nx τ',s')→exs f (a++b) τ s=exs f b τ' s'
 |[],b,f,τ,τ',s,s',h=>by cases h; rfl
 |x::a,b,f,τ,τ',s,s',h=>by
  simp only[exs,List.cons_append]at h ⊢
  cases q:f τ s x with
  |none=>rw[q]at h; cases h
  |some p=>
   rw[q]at h
   simp only[Option.bind_some]at h ⊢
   cases hp:p.1 with
   |nx τ2=>rw[hp]at h; simp only at h ⊢; exact exs_split a h
   |rt d=>rw[hp]at h; cases h
   |bk d=>rw[hp]at h; cases h
   |ct d=>rw[hp]at h; cases h
theorem exs_cons{x:S}{b:List S}{f:Sl→Store→S→Option (Out×Store)}{τ τ':Sl}{s s':Store}(h:f τ s x=some (.nx τ',s')):exs f (x::b) τ s=exs f b τ' s':=by
 simp only[exs,h,Option.bind_some]
theorem exs_ret{x:S}{b:List S}{f:Sl→Store→S→Option (Out×Store)}{τ:Sl}{s s':Store}{d:D}(h:f τ s x=some (.rt d,s')):exs f (x::b) τ s=some (.rt d,s'):=by
 simp only[exs,h,Option.bind_some]
theorem eqT_bb(a b:Bool):eqT (.bl a) (.bl b)=(a==b):=by rw[eqT]
theorem eqT_ii(a b:Int):eqT (.int a) (.int b)=(a==b):=by rw[eqT]
theorem eqT_ss(a b:Str):eqT (.str a) (.str b)=(a==b):=by rw[eqT]
theorem eqT_nn:eqT .non .non=true:=by rw[eqT]
theorem flat_b(n:Nat)(a:Bool):flat n (.bl a)=true:=by cases n<;>rfl
theorem flat_i(n:Nat)(a:Int):flat n (.int a)=true:=by cases n<;>rfl
theorem flat_s(n:Nat)(a:Str):flat n (.str a)=true:=by cases n<;>rfl
theorem flat_n(n:Nat):flat n .non=true:=by cases n<;>rfl
theorem eqD_bb(st:Store)(a b:Bool):eqD st (.bl a) (.bl b)=some (a==b):=by simp[eqD,seqAt,flat_b,eqT_bb]
theorem eqD_ii(st:Store)(a b:Int):eqD st (.int a) (.int b)=some (a==b):=by simp[eqD,seqAt,flat_i,eqT_ii]
theorem eqD_ss(st:Store)(a b:Str):eqD st (.str a) (.str b)=some (a==b):=by simp[eqD,seqAt,flat_s,eqT_ss]
theorem eqD_nn(st:Store):eqD st .non .non=some true:=by simp[eqD,seqAt,flat_n,eqT_nn]
theorem loop_rng'{f:Sl→Store→D→Option (Out×Store)}{lo:Int}{n:Nat}(P:Nat→Sl→Store→Prop)(hs:∀ i τ st,i<n→P i τ st→∃ τ' st',f τ st (.int (lo+i))=some (.nx τ',st')∧P (i+1) τ' st'):
  ∀ (k i:Nat) (τ:Sl) (st:Store),i+k=n→P i τ st→∃ τ' st',loop (.rng lo n) f (k+1) i τ st=some (.nx τ',st')∧P n τ' st'
 |0,i,τ,st,h,p=>by
  have:i=n:=by omega
  subst this
  exact⟨τ,st,by simp[loop,Src.at],p⟩
 |k+1,i,τ,st,h,p=>by
  have hi:i<n:=by omega
  obtain⟨τ',st',e,q⟩:=hs i τ st hi p
  obtain⟨τ2,st2,e2,q2⟩:=loop_rng' P hs k (i+1) τ' st' (by omega) q
  refine⟨τ2,st2,?_,q2⟩
  rw[loop]
  simp only[Src.at,hi,if_true,Option.bind_some,e]
  exact e2
theorem loop_rng{f:Sl→Store→D→Option (Out×Store)}{lo:Int}{n:Nat}{τ:Sl}{st:Store}(P:Nat→Sl→Store→Prop)(h0:P 0 τ st)(hs:∀ i τ st,i<n→P i τ st→∃ τ' st',f τ st (.int (lo+i))=some (.nx τ',st')∧P (i+1) τ' st'):
  ∃ τ' st',loop (.rng lo n) f (n+1) 0 τ st=some (.nx τ',st')∧P n τ' st':=loop_rng' P hs n 0 τ st (by omega) h0
theorem wlistAt_new(st:Store)(ds:List D):wlistAt (st++[.lst true ds]) st.length=some ds:=by simp[wlistAt]
theorem set_new(st:Store)(c c':Cell):(st++[c]).set st.length c'=st++[c']:=by simp
end M
end
section
namespace M
open PySem (Str)
def Co{α:Type}(a:Option α)(b:Nat→Option α):Prop:=∀ x,a=some x→∃ n,∀ m,n≤m→b m=some x
theorem Co.refl{α:Type}(a:Option α):Co a fun _=>a:=fun _ h=>⟨0,fun _ _=>h⟩
theorem Co.none{α:Type}(b:Nat→Option α):Co Option.none b:=fun _ h=>by cases h
theorem Co.bind{α β:Type}{f:Option α}{f':Nat→Option α}{g:α→Option β}{g':Nat→α→Option β}(hf:Co f f')(hg:∀ a,Co (g a) fun m=>g' m a):Co (f.bind g) fun m=>(f' m).bind (g' m):=fun x h=>by
 cases e:f with
 |none=>rw[e]at h; cases h
 |some a=>
  rw[e]at h
  obtain⟨n,hn⟩:=hf a e
  obtain⟨k,hk⟩:=hg a x h
  refine⟨max n k,fun m hm=>?_⟩
  simp only
  rw[hn m (by omega)]
  exact hk m (by omega)
theorem Co.map{α β:Type}{f:Option α}{f':Nat→Option α}(g:α→β)(hf:Co f f'):Co (f.map g) fun m=>(f' m).map g:=fun x h=>by
 cases e:f with
 |none=>rw[e]at h; cases h
 |some a=>
  rw[e]at h
  obtain⟨n,hn⟩:=hf a e
  refine⟨n,fun m hm=>?_⟩
  simp only
  rw[hn m hm]
  exact h
theorem Co.ite{α:Type}{c:Prop} [Decidable c]{a b:Option α}{a' b':Nat→Option α}(ha:Co a a') (hb:Co b b'):Co (if c then a else b) fun m=>if c then a' m else b' m:=by
 by_cases h:c
 ·simp only[if_pos h]; exact ha
 ·simp only[if_neg h]; exact hb
structure Le (r:R) (r':Nat→R):Prop where
 ev:∀ τ st e,Co (r.ev τ st e) fun m=>(r' m).ev τ st e
 tst:∀ τ st e,Co (r.tst τ st e) fun m=>(r' m).tst τ st e
 ex:∀ τ st e,Co (r.ex τ st e) fun m=>(r' m).ex τ st e
 call:∀ f ds st,Co (r.call f ds st) fun m=>(r' m).call f ds st
theorem evs_mono{f:Store→E→Option (D×Store)}{f':Nat→Store→E→Option (D×Store)}(h:∀ st e,Co (f st e) fun m=>f' m st e):∀ (es:List E) (st:Store),Co (evs f es st) fun m=>evs (f' m) es st
 |[],st=>.refl _
 |e::es,st=>(h st e).bind fun p=>(evs_mono h es p.2).bind fun q=>.refl _
theorem loop_mono{it:Src}{f:Sl→Store→D→Option (Out×Store)}{f':Nat→Sl→Store→D→Option (Out×Store)}(h:∀ τ st d,Co (f τ st d) fun m=>f' m τ st d):∀ (k i:Nat) (τ:Sl) (st:Store),Co (loop it f k i τ st) fun m=>loop it (f' m) k i τ st
 |0,_,_,_=>.refl _
 |k+1,i,τ,st=>by
  unfold loop
  refine(Co.refl _).bind fun o=>?_
  cases o with
  |none=>exact .refl _
  |some d=>
   refine(h τ st d).bind fun p=>?_
   cases hp:p.1 with
   |nx τ'=>exact loop_mono h k _ _ _
   |ct τ'=>exact loop_mono h k _ _ _
   |bk τ'=>exact .refl _
   |rt v=>exact .refl _
theorem loopC_mono{it:Src}{f:Sl→Store→D→Option (Option D×Sl×Store)}{f':Nat→Sl→Store→D→Option (Option D×Sl×Store)}(h:∀ τ st d,Co (f τ st d) fun m=>f' m τ st d):∀ (k i:Nat) (acc:List D) (τ:Sl) (st:Store),Co (loopC it f k i acc τ st) fun m=>loopC it (f' m) k i acc τ st
 |0,_,_,_,_=>.refl _
 |k+1,i,acc,τ,st=>by
  unfold loopC
  refine(Co.refl _).bind fun o=>?_
  cases o with
  |none=>exact .refl _
  |some d=>exact Co.ite (.refl _) ((h τ st d).bind fun p=>loopC_mono h k _ _ _ _)
theorem loopW_mono{f:Sl→Store→Option (Bool×Store)}{f':Nat→Sl→Store→Option (Bool×Store)}{g:Sl→Store→Option (Out×Store)}{g':Nat→Sl→Store→Option (Out×Store)}(h:∀ τ st,Co (f τ st) fun m=>f' m τ st)(h':∀ τ st,Co (g τ st) fun m=>g' m τ st):∀ (k:Nat) (τ:Sl) (st:Store),Co (loopW f g k τ st) fun m=>loopW (f' m) (g' m) k τ st
 |0,_,_=>.refl _
 |k+1,τ,st=>by
  unfold loopW
  refine(h τ st).bind fun b=>Co.ite ((h' τ _).bind fun p=>?_) (.refl _)
  cases hp:p.1 with
  |nx τ'=>exact loopW_mono h h' k _ _
  |ct τ'=>exact loopW_mono h h' k _ _
  |bk τ'=>exact .refl _
  |rt v=>exact .refl _
theorem exs_mono{f:Sl→Store→S→Option (Out×Store)}{f':Nat→Sl→Store→S→Option (Out×Store)}(h:∀ τ st s,Co (f τ st s) fun m=>f' m τ st s):∀ (ss:List S) (τ:Sl) (st:Store),Co (exs f ss τ st) fun m=>exs (f' m) ss τ st
 |[],_,_=>.refl _
 |s::ss,τ,st=>by
  unfold exs
  refine(h τ st s).bind fun p=>?_
  cases hp:p.1 with
  |nx τ'=>exact exs_mono h ss _ _
  |_=>exact .refl _
section
variable {r:R}{r':Nat→R}(h:Le r r')
include h
theorem src_mono(τ:Sl)(st:Store)(e:E):Co (src r τ st e) fun m=>src (r' m) τ st e:=by
 cases e with
 |rng1 a=>exact(h.ev τ st a).bind fun p=>.refl _
 |rng2 a b=>exact(h.ev τ st a).bind fun p=>(h.ev τ _ b).bind fun q=>.refl _
 |rng3 a b c=>exact(h.ev τ st a).bind fun p=>(h.ev τ _ b).bind fun q=>(h.ev τ _ c).bind fun u=>.refl _
 |zip a b=>exact(h.ev τ st a).bind fun p=>(h.ev τ _ b).bind fun q=>.refl _
 |_=>exact(h.ev τ st _).bind fun p=>.refl _
theorem part_mono(τ:Sl)(st:Store)(e:Option E):Co (part r τ st e) fun m=>part (r' m) τ st e:=by
 cases e with
 |none=>exact .refl _
 |some e=>exact(h.ev τ st e).bind fun p=>.refl _
theorem turnC_mono(t:T)(test:Option E)(elt:E)(τ:Sl)(st:Store)(d:D):Co (turnC r t test elt τ st d) fun m=>turnC (r' m) t test elt τ st d:=by
 unfold turnC
 refine(Co.refl _).bind fun τ'=>?_
 cases test with
 |none=>exact(h.ev _ _ _).map _
 |some c=>exact(h.tst _ _ _).bind fun b=>Co.ite ((h.ev _ _ _).map _) (.refl _)
theorem dinR_mono(τ:Sl)(st:Store)(neg:Bool)(a b:E):Co (dinR r τ st neg a b) fun m=>dinR (r' m) τ st neg a b:=(h.ev τ st a).bind fun p=>(h.ev τ _ b).bind fun q=>.refl _
theorem ginR_mono(τ:Sl)(st:Store)(neg:Bool)(ks:List PySem.Str)(b:E):Co (ginR r τ st neg ks b) fun m=>ginR (r' m) τ st neg ks b:=(h.ev τ st b).bind fun p=>.refl _
theorem stepEv_mono(τ:Sl)(st:Store)(e:E):Co (stepEv r τ st e) fun m=>stepEv (r' m) τ st e:=by
 cases e with
 |var i=>exact .refl _
 |lit d=>exact .refl _
 |glo x d=>exact .refl _
 |bin op a b=>exact(h.ev τ st a).bind fun p=>(h.ev τ _ b).bind fun q=>.refl _
 |neg a=>exact(h.ev τ st a).bind fun p=>.refl _
 |not a=>exact(h.ev τ st a).bind fun p=>.refl _
 |cmp op a b=>exact(h.ev τ st a).bind fun p=>(h.ev τ _ b).bind fun q=>.refl _
 |cmp2 op op' a b c=>exact(h.ev τ st a).bind fun p=>(h.ev τ _ b).bind fun q=>(Co.refl _).bind fun k=>Co.ite ((h.ev τ _ c).bind fun u=>.refl _) (.refl _)
 |and a b=>
  refine(h.ev τ st a).bind fun p=>?_
  obtain⟨d,s⟩:=p
  cases d with
  |bl k=>cases k with
   |true=>exact h.ev τ _ b
   |false=>exact .refl _
  |_=>exact .refl _
 |or a b=>
  refine(h.ev τ st a).bind fun p=>?_
  obtain⟨d,s⟩:=p
  cases d with
  |bl k=>cases k with
   |false=>exact h.ev τ _ b
   |true=>exact .refl _
  |_=>exact .refl _
 |ite c a b=>exact(h.tst τ st c).bind fun p=>Co.ite (h.ev τ _ a) (h.ev τ _ b)
 |tup es=>exact(evs_mono (h.ev τ) es st).bind fun p=>.refl _
 |lst es=>exact(evs_mono (h.ev τ) es st).bind fun p=>.refl _
 |idx a b=>exact(h.ev τ st a).bind fun p=>(h.ev τ _ b).bind fun q=>.refl _
 |sli a lo hi=>exact(h.ev τ st a).bind fun p=>(part_mono h τ _ lo).bind fun l=>(part_mono h τ _ hi).bind fun u=>.refl _
 |call f es=>exact(evs_mono (h.ev τ) es st).bind fun p=>h.call f _ _
 |bcall f es=>exact(evs_mono (h.ev τ) es st).bind fun p=>.refl _
 |isi a ts m=>exact(h.ev τ st a).bind fun p=>.refl _
 |lenset a=>exact(h.ev τ st a).bind fun p=>.refl _
 |cat a b=>exact(h.ev τ st a).bind fun p=>(h.ev τ _ b).bind fun q=>.refl _
 |gc a=>exact(h.ev τ st a).map _
 |meth a m es=>exact(h.ev τ st a).bind fun p=>Co.ite ((evs_mono (h.ev τ) es _).bind fun q=>.refl _) (.refl _)
 |rng1 a=>exact .refl _
 |rng2 a b=>exact .refl _
 |rng3 a b c=>exact .refl _
 |zip a b=>exact .refl _
 |dic es=>exact(evs_mono (h.ev τ) es _).bind fun p=>.refl _
 |didx a b=>exact(h.ev τ st a).bind fun p=>(h.ev τ _ b).bind fun q=>.refl _
 |din neg a b=>exact dinR_mono h τ st neg a b
 |dgt a b=>
  refine(h.ev τ st a).bind fun p=>?_
  obtain⟨d,s⟩:=p
  cases d with
  |loc l=>exact(Co.refl _).bind fun _=>(h.ev τ _ b).bind fun q=>.refl _
  |_=>exact .refl _
 |fmt a=>exact(h.ev τ st a).bind fun p=>.refl _
 |fstr es=>exact(evs_mono (h.ev τ) es st).bind fun p=>.refl _
 |gidx x ks ds b=>exact(h.ev τ st b).bind fun p=>.refl _
 |gin neg x ks b=>exact ginR_mono h τ st neg ks b
 |comp t it test elt sr=>exact(src_mono h τ st it).bind fun p=>(loopC_mono (turnC_mono h t test elt) _ _ _ _ _).map _
theorem stepTst_mono(τ:Sl)(st:Store)(e:E):Co (stepTst r τ st e) fun m=>stepTst (r' m) τ st e:=by
 cases e with
 |not a=>exact(h.tst τ st a).map _
 |and a b=>exact(h.tst τ st a).bind fun p=>Co.ite (h.tst τ _ b) (.refl _)
 |or a b=>exact(h.tst τ st a).bind fun p=>Co.ite (.refl _) (h.tst τ _ b)
 |ite _ _ _=>exact .refl _
 |din neg a b=>exact(dinR_mono h τ st neg a b).bind fun p=>.refl _
 |gin neg x ks b=>exact(ginR_mono h τ st neg ks b).bind fun p=>.refl _
 |cmp op a b=>exact(h.ev τ st a).bind fun p=>(h.ev τ _ b).bind fun q=>.refl _
 |cmp2 op op' a b c=>exact(h.ev τ st a).bind fun p=>(h.ev τ _ b).bind fun q=>(Co.refl _).bind fun k=>Co.ite ((h.ev τ _ c).bind fun u=>.refl _) (.refl _)
 |_=>exact(h.ev τ st _).bind fun p=>.refl _
theorem stepEx_mono(τ:Sl)(st:Store)(s:S):Co (stepEx r τ st s) fun m=>stepEx (r' m) τ st s:=by
 cases s with
 |set t e=>exact(h.ev τ st e).bind fun p=>.refl _
 |setIx a i e=>exact(h.ev τ st e).bind fun p=>(h.ev τ _ a).bind fun q=>(h.ev τ _ i).bind fun u=>.refl _
 |dset a i e=>exact(h.ev τ st e).bind fun p=>(h.ev τ _ a).bind fun q=>(h.ev τ _ i).bind fun u=>.refl _
 |rais=>exact .refl _
 |expr e=>exact(h.ev τ st e).map _
 |ret e=>exact(h.ev τ st e).map _
 |retN=>exact .refl _
 |ite c a b=>exact(h.tst τ st c).bind fun p=>Co.ite (h.ex τ _ a) (h.ex τ _ b)
 |forr t it body=>exact(src_mono h τ st it).bind fun p=>loop_mono (fun τ st d=>(Co.refl _).bind fun τ'=>h.ex τ' st body) _ _ _ _
 |whil c body=>exact loopW_mono (fun τ st=>h.tst τ st c) (fun τ st=>h.ex τ st body) _ _ _
 |aug i op e=>
  simp only[stepEx]
  cases h1:τ[i]? with
  |none=>exact .none _
  |some o=>
   cases o with
   |none=>exact .none _
   |some x=>exact(h.ev τ st e).bind fun p=>.refl _
 |brk=>exact .refl _
 |cnt=>exact .refl _
 |pass=>exact .refl _
theorem step_mono(c:Nat→List D→Store→Option (D×Store)):Le (step c r) fun m=>step c (r' m):=
 ⟨stepEv_mono h,stepTst_mono h,fun τ st ss=>exs_mono (stepEx_mono h) ss τ st,fun f ds st=>.refl _⟩
end
theorem run_succ(c:Nat→List D→Store→Option (D×Store)):∀ n,Le (runK c n) fun _=>runK c (n+1)
 |0=>⟨fun _ _ _=>.none _,fun _ _ _=>.none _,fun _ _ _=>.none _,fun _ _ _=>.refl _⟩
 |n+1=>step_mono (run_succ c n) c
section
variable {c:Nat→List D→Store→Option (D×Store)}{n N:Nat}
theorem ev_up{τ:Sl}{st:Store}{e:E}{x:D×Store}(h:(runK c n).ev τ st e=some x)(hN:n≤N):(runK c N).ev τ st e=some x:=by
 induction hN with
 |refl=>exact h
 |step _ ih=>obtain⟨k,hk⟩:=(run_succ c _).ev τ st e x ih; exact hk k (Nat.le_refl _)
theorem ex_up{τ:Sl}{st:Store}{e:List S}{x:Out×Store}(h:(runK c n).ex τ st e=some x)(hN:n≤N):(runK c N).ex τ st e=some x:=by
 induction hN with
 |refl=>exact h
 |step _ ih=>obtain⟨k,hk⟩:=(run_succ c _).ex τ st e x ih; exact hk k (Nat.le_refl _)
end
theorem lim1_of{α:Type}{f:Nat→Option α}{n:Nat}{x:α}(up:∀ n N x,f n=some x→n≤N→f N=some x)(h:f n=some x):lim1 f=some x:=by
 have hx:∃ x,∃ n,f n=some x:=⟨x,n,h⟩
 unfold lim1
 rw[dif_pos hx]
 obtain⟨k,hk⟩:=hx.choose_spec
 have e1:=up _ (max n k) _ h (by omega)
 have e2:=up _ (max n k) _ hk (by omega)
 rw[e1]at e2
 exact e2.symm
section
variable {fns:List Fn}{d:Nat}{τ:Sl}{st:Store}
theorem call_of{f:Nat}{F:Fn}{ds:List D}{st':Store}{v:D}(n:Nat)(hf:fns[f]?=some F)(hl:ds.length=F.np)(hτ:ds.map some++List.replicate (F.nl - ds.length) none=τ)
  (h:exs (stepEx (rn fns d n)) F.body τ st=some (.rt v,st')):callD fns (d+1) f ds st=some (v,st'):=by
 show stepCall fns (RL (callD fns d)) f ds st=_
 unfold stepCall
 rw[hf]
 dsimp only
 have e:(RL (callD fns d)).ex τ st F.body=some (.rt v,st'):=lim1_of (n:=n+1) (fun _ _ _ h k=>ex_up h k) h
 rw[if_pos hl,hτ,e]
 rfl
theorem ev_k{c:Nat→List D→Store→Option (D×Store)}{n:Nat}(e:E):(runK c (n+1)).ev τ st e=stepEv (runK c n) τ st e:=rfl
theorem tst_k{c:Nat→List D→Store→Option (D×Store)}{n:Nat}(e:E):(runK c (n+1)).tst τ st e=stepTst (runK c n) τ st e:=rfl
theorem ex_k{c:Nat→List D→Store→Option (D×Store)}{n:Nat}(e:List S):(runK c (n+1)).ex τ st e=exs (stepEx (runK c n)) e τ st:=rfl
theorem call_k{c:Nat→List D→Store→Option (D×Store)}{n:Nat}(f:Nat)(ds:List D):(runK c (n+1)).call f ds st=c f ds st:=rfl
end
end M
end
section
namespace M
open PySem (Str)
section
variable {r:R}{s:Src}{S:Store}{rest:Sl}{elt:E}{ds:List D}
theorem loopC_map{es:List D}(hat:∀ i,s.at S i=some ds[i]?)(hlen:es.length=ds.length)(hlim:ds.length<lim)(he:∀ (i:Nat) (d e:D),ds[i]?=some d→es[i]?=some e→r.ev (some d::rest) S elt=some (e,S)):
  ∀ (k i:Nat) (o:Option D),i+k=ds.length→loopC s (turnC r (.var 0) none elt) (k+1) i (es.take i) (o::rest) S=some (es,S)
 |0,i,o,h=>by
  have e:i=ds.length:=by omega
  subst e
  have h1:es.take ds.length=es:=List.take_of_length_le (by omega)
  rw[loopC,hat,h1]
  simp only[Option.bind_some,List.getElem?_eq_none (Nat.le_refl _)]
  rw[if_neg (by omega)]
 |k+1,i,o,h=>by
  have hi:i<ds.length:=by omega
  have h1:ds[i]?=some ds[i]:=by simp
  have h2:es[i]?=some (es[i]'(by omega)):=by simp
  have h3:=he i _ _ h1 h2
  rw[loopC,hat,h1]
  simp only[Option.bind_some]
  rw[if_neg (by rw[List.length_take]; omega)]
  have e1:turnC r (.var 0) none elt (o::rest) S ds[i]=some (some (es[i]'(by omega)),some ds[i]::rest,S):=by
   unfold turnC
   simp only[setT,List.length_cons,Nat.zero_lt_succ,if_true,List.set_cons_zero,Option.bind_some,h3,Option.map_some]
  rw[e1]
  simp only[Option.bind_some]
  rw[show es.take i++[es[i]'(by omega)]=es.take (i+1) by rw[List.take_succ_eq_append_getElem (by omega)]]
  exact loopC_map hat hlen hlim he k (i+1) _ (by omega)
end
theorem comp_map{r:R}{τ:Sl}{S S':Store}{it elt:E}{sr:List (Option Nat)}{s:Src}{rest:Sl}{ds es:List D}(hsrc:src r τ S it=some (s,S'))(hat:∀ i,s.at S' i=some ds[i]?)(hsz:s.size S'=ds.length)(hin:inner sr τ=none::rest)(hlen:es.length=ds.length)(hlim:ds.length<lim)
  (he:∀ (i:Nat) (d e:D),ds[i]?=some d→es[i]?=some e→r.ev (some d::rest) S' elt=some (e,S')):stepEv r τ S (.comp (.var 0) it none elt sr)=some (.loc S'.length,S'++[.lst true es]):=by
 have h:=loopC_map (r:=r) (s:=s) (S:=S') (rest:=rest) (elt:=elt) hat hlen hlim he ds.length 0 none (by omega)
 show((src r τ S it).bind fun p=>(loopC p.1 (turnC r (.var 0) none elt) (p.1.size p.2+1) 0 [] (inner sr τ) p.2).map fun q=>alloc q.2 (.lst true q.1))=_
 rw[hsrc]
 simp only[Option.bind_some,hsz,hin]
 rw[show([]:List D)=es.take 0 by simp,h]
 rfl
theorem at_rng{S:Store}(lo:Int)(n:Nat)(i:Nat):(Src.rng lo n).at S i=some ((List.range n).map fun(j:Nat)=>D.int (lo+j))[i]?:=by
 simp only[Src.at,List.getElem?_map]
 by_cases h:i<n
 ·rw[if_pos h,List.getElem?_range h]; rfl
 ·rw[if_neg h,List.getElem?_eq_none (by simpa using h)]; rfl
end M
end
section
namespace M
open PySem (Str)
section
variable {st r:Store}{d:D}{ds:List D}
theorem gc_app(h:noLoc d=true):gcD st (d,st++r)=(d,st):=by
 unfold gcD
 rw[if_pos (by simp),if_pos h]
theorem gc_same(h:noLoc d=true):gcD st (d,st)=(d,st):=by
 have:=gc_app (st:=st) (r:=[]) h
 rwa [List.append_nil]at this
theorem noLoc_tup:noLoc (.tup ds)=noLocs ds:=by rw[noLoc]
theorem noLoc_lst:noLoc (.lst ds)=noLocs ds:=by rw[noLoc]
theorem noLocs_cons:noLocs (d::ds)=(noLoc d&&noLocs ds):=rfl
theorem noLocs_all:∀ {ds:List D},noLocs ds=ds.all noLoc
 |[]=>rfl
 |d::ds=>by rw[noLocs_cons,List.all_cons,noLocs_all]
theorem noLocs_of(h:∀ d∈ds,noLoc d=true):noLocs ds=true:=by rw[noLocs_all,List.all_eq_true]; exact h
theorem noLocs_map{α:Type}{xs:List α}{g:α→D}(h:∀ x∈xs,noLoc (g x)=true):noLocs (xs.map g)=true:=noLocs_of fun d hd=>by
 obtain⟨x,hx,rfl⟩:=List.mem_map.mp hd
 exact h x hx
theorem gc_new(h:noLocs ds=true):gcD st (.loc st.length,st++[.lst true ds])=(.lst ds,st):=by
 unfold gcD
 rw[if_pos (by simp),if_neg (by simp[noLoc])]
 simp[h]
theorem gc_new'{k:Nat}(h:noLocs ds=true)(hk:r[k]?=some (.lst true ds)):gcD st (.loc (st.length+k),st++r)=(.lst ds,st):=by
 unfold gcD
 rw[if_pos (by simp),if_neg (by simp[noLoc])]
 have e:(st++r)[st.length+k]?=some (.lst true ds):=by rw[List.getElem?_append_right (by omega),show st.length+k - st.length=k by omega]; exact hk
 simp only[e,h]
 simp
end
theorem stepEx_ite_t{r:R}{τ:Sl}{st st':Store}{c:E}{a b:List S}(h:r.tst τ st c=some (true,st')):stepEx r τ st (.ite c a b)=r.ex τ st' a:=by
 show (r.tst τ st c).bind _=_
 rw[h]; rfl
theorem stepEx_ite_f{r:R}{τ:Sl}{st st':Store}{c:E}{a b:List S}(h:r.tst τ st c=some (false,st')):stepEx r τ st (.ite c a b)=r.ex τ st' b:=by
 show (r.tst τ st c).bind _=_
 rw[h]; rfl
noncomputable def cDraw:List S:=[
 .set (.var 4) (.lit (.int 0)),
 .set (.var 5) (.lit (.int 1)),
 .ite (.cmp .Gt (.bcall .len [(.var 0)]) (.lit (.int 0))) [.set (.var 4) (.idx (.var 0) (.bin .Mod (.var 1) (.bcall .len [(.var 0)]))),.set (.var 5) (.bin .FloorDiv (.var 1) (.bcall .len [(.var 0)]))] [],
 .set (.var 6) (.var 4),
 .forr (.var 7) (.rng1 (.var 2)) [.set (.var 6) (.bin .FloorDiv (.var 6) (.bin .Pow (.lit (.int 10)) (.lit (.int 10))))],
 .ite (.and (.cmp .Eq (.var 5) (.lit (.int 0))) (.and (.cmp .GtE (.var 4) (.bin .Pow (.lit (.int 10)) (.lit (.int 18)))) (.cmp .Gt (.var 6) (.lit (.int 0))))) [.ret (.bin .Mod (.bin .Mod (.var 6) (.bin .Pow (.lit (.int 10)) (.lit (.int 10)))) (.var 3))] [],
 .set (.var 8) (.bin .Mod (.bin .Add (.bin .Add (.bin .Add (.bin .Mult (.var 4) (.lit (.int 7919))) (.bin .Mult (.var 1) (.lit (.int 104729)))) (.bin .Mult (.var 2) (.lit (.int 1299709)))) (.lit (.int 31))) (.lit (.int 1000000007))),
 .set (.var 9) (.bin .Mod (.bin .Add (.bin .Mult (.var 8) (.lit (.int 48271))) (.bin .FloorDiv (.var 4) (.lit (.int 1009)))) (.lit (.int 998244353))),
 .set (.var 9) (.bin .Mod (.bin .Add (.bin .Mult (.var 9) (.bin .Add (.bin .Mod (.var 8) (.lit (.int 9973))) (.lit (.int 1)))) (.var 2)) (.lit (.int 1000000009))),
 .ret (.bin .Mod (.bin .Mod (.bin .Add (.bin .Add (.bin .Mult (.var 8) (.lit (.int 69621))) (.bin .Mult (.var 9) (.lit (.int 40692)))) (.bin .FloorDiv (.var 9) (.lit (.int 1013)))) (.lit (.int 2147483647))) (.var 3))]
noncomputable def fDraw:Fn:=⟨4,10,cDraw⟩
theorem mulOk_r{a b:Int}(h1:-(2 ^ 64)<b)(h2:b<2 ^ 64):mulOk a b=true:=by unfold mulOk; simp; omega
theorem mulOk_l{a b:Int}(h1:-(2 ^ 64)<a)(h2:a<2 ^ 64):mulOk a b=true:=by unfold mulOk; simp; omega
noncomputable def drawC(ns:List Int)(k:Int):Int×Int:=if ns=[] then(0,1) else(ns.getD (k % (ns.length:Int)).toNat 0,k / ns.length)
noncomputable def iterD:Nat→Int→Int
 |0,c=>c
 |n+1,c=>iterD n c / 10000000000
noncomputable def drawF(c k j many:Int):Int:=(fun one=>(fun two=>(fun two'=>(one*69621+two'*40692+two' / 1013) % 2147483647 % many) ((two*(one % 9973+1)+j) % 1000000009)) ((one*48271+c / 1009) % 998244353)) ((c*7919+k*104729+j*1299709+31) % 1000000007)
noncomputable def drawV(ns:List Int)(k j many:Int):Int:=
 if (drawC ns k).2=0∧1000000000000000000≤(drawC ns k).1∧0<iterD j.toNat (drawC ns k).1 then iterD j.toNat (drawC ns k).1 % 10000000000 % many else drawF (drawC ns k).1 k j many
theorem drawV_lo(ns:List Int)(k j:Int){many:Int}(h:0<many):0≤drawV ns k j many:=by
 unfold drawV
 split
 ·exact Int.emod_nonneg _ (by omega)
 ·exact Int.emod_nonneg _ (by omega)
theorem drawV_hi(ns:List Int)(k j:Int){many:Int}(h:0<many):drawV ns k j many<many:=by
 unfold drawV
 split
 ·exact Int.emod_lt_of_pos _ h
 ·exact Int.emod_lt_of_pos _ h
section
variable {c:Nat→List D→Store→Option (D×Store)}{n:Nat}{τ:Sl}{st:Store}
theorem evB{op:PySem.Operator}{A B:E}{a b r:D}(ha:(runK c n).ev τ st A=some (a,st))(hb:(runK c n).ev τ st B=some (b,st))(hr:binop st op a b=some (r,st)):(runK c (n+1)).ev τ st (.bin op A B)=some (r,st):=by
 rw[ev_k]
 simp only[stepEv,ha,hb,Option.bind_some,hr]
theorem evV{i:Nat}{d:D}(h:τ[i]?=some (some d)):(runK c (n+1)).ev τ st (.var i)=some (d,st):=by
 rw[ev_k]
 simp only[stepEv,h]
theorem evX{a b:E}{x y r:D}(ha:(runK c n).ev τ st a=some (x,st))(hb:(runK c n).ev τ st b=some (y,st))(h:idxD st x y=some r):(runK c (n+1)).ev τ st (.idx a b)=some (r,st):=by
 rw[ev_k]
 simp only[stepEv,ha,hb,Option.bind_some,h,Option.map_some]
theorem stS{τ':Sl}{i:Nat}{e:E}{d:D}(he:(runK c n).ev τ st e=some (d,st))(ht:setT (.var i) d τ=some τ'):stepEx (runK c n) τ st (.set (.var i) e)=some (.nx τ',st):=by
 simp only[stepEx,he,Option.bind_some,ht,Option.map_some]
theorem stR{e:E}{d:D}(he:(runK c n).ev τ st e=some (d,st)):stepEx (runK c n) τ st (.ret e)=some (.rt d,st):=by
 simp only[stepEx,he,Option.map_some]
theorem tCmp{op:PySem.CmpOp}{a b:E}{x y:D}{k:Bool}(ha:(runK c n).ev τ st a=some (x,st))(hb:(runK c n).ev τ st b=some (y,st))(h:cmpD st op x y=some k):(runK c (n+1)).tst τ st (.cmp op a b)=some (k,st):=by
 rw[tst_k]
 simp only[stepTst,ha,hb,Option.bind_some,h,Option.map_some]
theorem tAnd{a b:E}{x y:Bool}(ha:(runK c n).tst τ st a=some (x,st))(hb:(runK c n).tst τ st b=some (y,st)):(runK c (n+1)).tst τ st (.and a b)=some (x&&y,st):=by
 rw[tst_k]
 simp only[stepTst,ha,Option.bind_some]
 cases x with
 |true=>rw[if_pos rfl,hb]; rfl
 |false=>rfl
end
theorem bMu(S:Store)(a:Int){b:Int}(h0:-(2 ^ 64)<b)(h1:b<2 ^ 64):binop S .Mult (.int a) (.int b)=some (.int (a*b),S):=by
 simp only[binop]
 rw[if_pos (mulOk_r h0 h1)]
theorem bMo(S:Store)(a:Int){b:Int}(h:0<b):binop S .Mod (.int a) (.int b)=some (.int (a % b),S):=by
 simp only[binop]
 rw[if_pos h]
theorem bDi(S:Store)(a:Int){b:Int}(h:0<b)(h1:b<2 ^ 64):binop S .FloorDiv (.int a) (.int b)=some (.int (a / b),S):=by
 simp only[binop]
 rw[if_pos ⟨h,h1⟩]
noncomputable abbrev dT(ns:List Int)(k j many:Int)(r:Sl):Sl:=some (.lst (ns.map D.int))::some (.int k)::some (.int j)::some (.int many)::r
theorem draw_first{c:Nat→List D→Store→Option (D×Store)}(st:Store)(ns:List Int)(k j many:Int)(hn:ns.length≤63):
  exs (stepEx (runK c 30)) (cDraw.take 4) (dT ns k j many [none,none,none,none,none,none]) st=some (.nx (dT ns k j many [some (.int (drawC ns k).1),some (.int (drawC ns k).2),some (.int (drawC ns k).1),none,none,none]),st):=by
 by_cases he:ns=[]
 ·subst he
  rfl
 ·have hp:0<ns.length:=List.length_pos_iff.mpr he
  have hz:0<(ns.length:Int):=by omega
  have h1:0≤k % (ns.length:Int):=Int.emod_nonneg _ (by omega)
  have h2:k % (ns.length:Int)<ns.length:=Int.emod_lt_of_pos _ hz
  have h5:(k % (ns.length:Int)).toNat<ns.length:=by omega
  have eC:drawC ns k=(ns[(k % (ns.length:Int)).toNat]'h5,k / ns.length):=by
   unfold drawC
   rw[if_neg he,List.getD_eq_getElem?_getD,List.getElem?_eq_getElem h5]
   rfl
  rw[eC]
  have l:∀ (m:Nat) (r:Sl),(runK c (m+2)).ev (dT ns k j many r) st (.bcall .len [(.var 0)])=some (.int ns.length,st):=fun m r=>by
   have v:(runK c (m+1)).ev (dT ns k j many r) st (.var 0)=some (.lst (ns.map D.int),st):=rfl
   rw[ev_k]
   simp only[stepEv,evs,v,Option.bind_some,bfun,bLen,seqAt,Option.map_some,List.length_map]
  have x:idxD st (.lst (ns.map D.int)) (.int (k % ns.length))=some (.int (ns[(k % (ns.length:Int)).toNat]'h5)):=by
   simp only[idxD,seqAt,Option.bind_some,atI,ixN,h1,if_true,List.length_map,h2,List.getElem?_map,List.getElem?_eq_getElem h5,Option.map_some]
  refine(exs_cons (τ':=dT ns k j many [some (.int 0),none,none,none,none,none]) (s':=st) rfl).trans ?_
  refine(exs_cons (τ':=dT ns k j many [some (.int 0),some (.int 1),none,none,none,none]) (s':=st) rfl).trans ?_
  have t:=tCmp (c:=c) (n:=29) (τ:=dT ns k j many [some (.int 0),some (.int 1),none,none,none,none]) (st:=st) (op:=.Gt) (b:=.lit (.int 0)) (y:=.int 0) (k:=true) (l 27 _) rfl (by
   show some (decide ((0:Int)<ns.length))=_
   rw[decide_eq_true hz])
  refine(exs_cons (τ':=dT ns k j many [some (.int (ns[(k % (ns.length:Int)).toNat]'h5)),some (.int (k / ns.length)),none,none,none,none]) (s':=st) ((stepEx_ite_t t).trans ?_)).trans rfl
  refine(exs_cons (τ':=dT ns k j many [some (.int (ns[(k % (ns.length:Int)).toNat]'h5)),some (.int 1),none,none,none,none]) (s':=st) (stS (evX (n:=28) (x:=.lst (ns.map D.int)) rfl (evB (n:=27) (a:=.int k) rfl (l 25 _) (bMo _ _ hz)) x) rfl)).trans ?_
  exact(exs_cons (τ':=dT ns k j many [some (.int (ns[(k % (ns.length:Int)).toNat]'h5)),some (.int (k / ns.length)),none,none,none,none]) (s':=st) (stS (evB (n:=28) (a:=.int k) rfl (l 26 _) (bDi _ _ hz (by omega))) rfl)).trans rfl
theorem draw_second{c:Nat→List D→Store→Option (D×Store)}(st:Store)(ns:List Int)(k j many cell turn:Int)(hj:0≤j)(hj2:j<100000):
  ∃ o,stepEx (runK c 30) (dT ns k j many [some (.int cell),some (.int turn),some (.int cell),none,none,none]) st (.forr (.var 7) (.rng1 (.var 2)) [.set (.var 6) (.bin .FloorDiv (.var 6) (.bin .Pow (.lit (.int 10)) (.lit (.int 10))))])=some (.nx (dT ns k j many [some (.int cell),some (.int turn),some (.int (iterD j.toNat cell)),o,none,none]),st):=by
 have hb:big j=false:=by unfold big; simp; omega
 obtain⟨τ',st',e,o,hT,hS⟩:=loop_rng (lo:=0) (n:=j.toNat) (τ:=dT ns k j many [some (.int cell),some (.int turn),some (.int cell),none,none,none]) (st:=st)
  (f:=fun τ st d=>(setT (.var 7) d τ).bind fun τ'=>(runK c 30).ex τ' st [.set (.var 6) (.bin .FloorDiv (.var 6) (.bin .Pow (.lit (.int 10)) (.lit (.int 10))))])
  (fun i τ s=>∃ (o:Option D),τ=dT ns k j many [some (.int cell),some (.int turn),some (.int (iterD i cell)),o,none,none]∧s=st) ⟨none,rfl,rfl⟩ (by
   rintro i τ s hi ⟨o,rfl,rfl⟩
   refine⟨dT ns k j many [some (.int cell),some (.int turn),some (.int (iterD i cell / 10000000000)),some (.int (0+i)),none,none],s,?_,_,rfl,rfl⟩
   show exs (stepEx (runK c 29)) _ (dT ns k j many [some (.int cell),some (.int turn),some (.int (iterD i cell)),some (.int (0+i)),none,none]) s=_
   exact(exs_cons (τ':=dT ns k j many [some (.int cell),some (.int turn),some (.int (iterD i cell / 10000000000)),some (.int (0+i)),none,none]) (s':=s) (stS (evB (n:=28) (a:=.int (iterD i cell)) (b:=.int 10000000000) rfl rfl (bDi _ _ (by decide) (by decide))) rfl)).trans rfl)
 rw[hT,hS]at e
 refine⟨o,?_⟩
 have v:(runK c 30).ev (dT ns k j many [some (.int cell),some (.int turn),some (.int cell),none,none,none]) st (.var 2)=some (.int j,st):=rfl
 simp only[stepEx,src,v,Option.bind_some,hb,Bool.false_eq_true,if_false,Src.size]
 exact e
theorem draw_eq'{fns:List Fn}{f:Nat}(hf:fns[f]?=some fDraw)(n:Nat)(st:Store)(ns:List Int)(k j many:Int)(hn:ns.length≤63)(hj:0≤j)(hj2:j<100000)(hm:0<many):
  callD fns (n+1) f [.lst (ns.map D.int),.int k,.int j,.int many] st=some (.int (drawV ns k j many),st):=by
 refine call_of 30 hf rfl rfl ?_
 show exs (stepEx (rn fns n 30)) (cDraw.take 4++cDraw.drop 4) (dT ns k j many [none,none,none,none,none,none]) st=_
 rw[exs_split _ (draw_first st ns k j many hn)]
 unfold drawV
 generalize (drawC ns k).1=cell
 generalize (drawC ns k).2=turn
 obtain⟨o,e2⟩:=draw_second (c:=callD fns n) st ns k j many cell turn hj hj2
 refine(exs_cons e2).trans ?_
 generalize iterD j.toNat cell=rest
 have t:=tAnd (c:=callD fns n) (n:=29) (τ:=dT ns k j many [some (.int cell),some (.int turn),some (.int rest),o,none,none]) (st:=st) (tCmp (n:=28) (op:=.Eq) (a:=.var 5) (b:=.lit (.int 0)) (x:=.int turn) (y:=.int 0) (k:=turn==0) rfl rfl (eqD_ii st turn 0)) (tAnd (n:=28) (tCmp (n:=27) (op:=.GtE) (a:=.var 4) (b:=.bin .Pow (.lit (.int 10)) (.lit (.int 18))) (x:=.int cell) (y:=.int 1000000000000000000) rfl rfl rfl) (tCmp (n:=27) (op:=.Gt) (a:=.var 6) (b:=.lit (.int 0)) (x:=.int rest) (y:=.int 0) rfl rfl rfl))
 by_cases hc:turn=0∧1000000000000000000≤cell∧0<rest
 ·rw[if_pos hc]
  have tb:((turn==0)&&(decide (1000000000000000000≤cell)&&decide (0<rest)))=true:=by
   rw[hc.1,decide_eq_true hc.2.1,decide_eq_true hc.2.2]; rfl
  rw[tb]at t
  exact exs_ret ((stepEx_ite_t t).trans (exs_ret (stR (evB (n:=28) (b:=.int many) (evB (n:=27) (a:=.int rest) (b:=.int 10000000000) rfl rfl (bMo _ _ (by decide))) rfl (bMo _ _ hm)))))
 ·rw[if_neg hc]
  have tb:((turn==0)&&(decide (1000000000000000000≤cell)&&decide (0<rest)))=false:=by
   rw[← Bool.not_eq_true,Bool.and_eq_true,Bool.and_eq_true,beq_iff_eq,decide_eq_true_iff,decide_eq_true_iff]
   exact hc
  rw[tb]at t
  refine(exs_cons (τ':=dT ns k j many [some (.int cell),some (.int turn),some (.int rest),o,none,none]) (s':=st) ((stepEx_ite_f t).trans rfl)).trans ?_
  unfold drawF
  refine(exs_cons (stS (evB (n:=29) (b:=.int 1000000007) (evB (n:=28) (b:=.int 31) (evB (n:=27) (evB (n:=26) (evB (n:=25) (a:=.int cell) (b:=.int 7919) rfl rfl (bMu _ _ (by decide) (by decide))) (evB (n:=25) (a:=.int k) (b:=.int 104729) rfl rfl (bMu _ _ (by decide) (by decide))) rfl) (evB (n:=26) (a:=.int j) (b:=.int 1299709) rfl rfl (bMu _ _ (by decide) (by decide))) rfl) rfl rfl) rfl (bMo _ _ (by decide))) rfl)).trans ?_
  generalize (cell*7919+k*104729+j*1299709+31) % 1000000007=one
  try dsimp only
  refine(exs_cons (stS (evB (n:=29) (b:=.int 998244353) (evB (n:=28) (evB (n:=27) (a:=.int one) (b:=.int 48271) rfl rfl (bMu _ _ (by decide) (by decide))) (evB (n:=27) (a:=.int cell) (b:=.int 1009) rfl rfl (bDi _ _ (by decide) (by decide))) rfl) rfl (bMo _ _ (by decide))) rfl)).trans ?_
  generalize (one*48271+cell / 1009) % 998244353=two
  try dsimp only
  have h1:0≤one % 9973:=Int.emod_nonneg _ (by decide)
  have h2:one % 9973<9973:=Int.emod_lt_of_pos _ (by decide)
  refine(exs_cons (stS (evB (n:=29) (b:=.int 1000000009) (evB (n:=28) (b:=.int j) (evB (n:=27) (a:=.int two) rfl (evB (n:=26) (b:=.int 1) (evB (n:=25) (a:=.int one) (b:=.int 9973) rfl rfl (bMo _ _ (by decide))) rfl rfl) (bMu _ _ (by omega) (by omega))) rfl rfl) rfl (bMo _ _ (by decide))) rfl)).trans ?_
  generalize (two*(one % 9973+1)+j) % 1000000009=two'
  try dsimp only
  exact exs_ret (stR (evB (n:=29) (b:=.int many) (evB (n:=28) (b:=.int 2147483647) (evB (n:=27) (evB (n:=26) (evB (n:=25) (a:=.int one) (b:=.int 69621) rfl rfl (bMu _ _ (by decide) (by decide))) (evB (n:=25) (a:=.int two') (b:=.int 40692) rfl rfl (bMu _ _ (by decide) (by decide))) rfl) (evB (n:=26) (a:=.int two') (b:=.int 1013) rfl rfl (bDi _ _ (by decide) (by decide))) rfl) rfl (bMo _ _ (by decide))) rfl (bMo _ _ hm)))
theorem draw_eq{fns:List Fn}{f:Nat}(hf:fns[f]?=some fDraw){N:Nat}(hN:1≤N){st:Store}{ns:List Int}{k j many:Int}(hn:ns.length≤63)(hj:0≤j)(hj2:j<100000)(hm:0<many):
  callD fns N f [.lst (ns.map D.int),.int k,.int j,.int many] st=some (.int (drawV ns k j many),st):=by
 have:=draw_eq' hf (N - 1) st ns k j many hn hj hj2 hm
 rwa [show N - 1+1=N by omega]at this
end M
end
section
namespace M
open PySem (Str)
abbrev CF:=Nat→List D→Store→Option (D×Store)
section
variable {c:CF}{n:Nat}{τ:Sl}{st:Store}{it elt:E}{sr:List (Option Nat)}{s:Src}{rest:Sl}{α:Type}
theorem gc_comp(xs:List α)(f g:α→D)(hsrc:src (runK c n) τ st it=some (s,st))(hat:∀ i,s.at st i=some (xs.map f)[i]?)(hsz:s.size st=xs.length)(hin:inner sr τ=none::rest)(hlim:xs.length<1000000)(hg:∀ x∈xs,noLoc (g x)=true)
  (he:∀ x∈xs,(runK c n).ev (some (f x)::rest) st elt=some (g x,st)):(runK c (n+2)).ev τ st (.gc (.comp (.var 0) it none elt sr))=some (.lst (xs.map g),st):=by
 have h:=comp_map (r:=runK c n) (τ:=τ) (S:=st) (S':=st) (it:=it) (elt:=elt) (sr:=sr) (s:=s) (rest:=rest) (ds:=xs.map f) (es:=xs.map g) hsrc hat (by rw[hsz,List.length_map]) hin (by rw[List.length_map,List.length_map]) (by rw[List.length_map]; unfold lim; omega) (fun i d e h1 h2=>by
  rw[List.getElem?_map]at h1 h2
  cases hx:xs[i]? with
  |none=>rw[hx]at h1; cases h1
  |some x=>
   rw[hx]at h1 h2
   cases h1
   cases h2
   exact he x (List.mem_of_getElem? hx))
 have e1:(runK c (n+1)).ev τ st (.comp (.var 0) it none elt sr)=some (.loc st.length,st++[.lst true (xs.map g)]):=h
 show((runK c (n+1)).ev τ st (.comp (.var 0) it none elt sr)).map (fun p=>gcD st p)=_
 rw[e1]
 show some (gcD st (.loc st.length,st++[.lst true (xs.map g)]))=_
 rw[gc_new (noLocs_map hg)]
theorem gc_ev{d:D}{e:E}(h:(runK c n).ev τ st e=some (d,st))(hd:noLoc d=true):(runK c (n+1)).ev τ st (.gc e)=some (d,st):=by
 show((runK c n).ev τ st e).map (fun p=>gcD st p)=_
 rw[h]
 show some (gcD st (d,st))=_
 rw[gc_same hd]
theorem gc_evL{ds:List D}{e:E}(h:(runK c n).ev τ st e=some (.loc st.length,st++[.lst true ds]))(hd:noLocs ds=true):(runK c (n+1)).ev τ st (.gc e)=some (.lst ds,st):=by
 show((runK c n).ev τ st e).map (fun p=>gcD st p)=_
 rw[h]
 show some (gcD st _)=_
 rw[gc_new hd]
theorem gc_lit{es:List E}{ds:List D}(h:evs ((runK c n).ev τ) es st=some (ds,st))(hl:ds.length≤1000)(hd:noLocs ds=true):(runK c (n+2)).ev τ st (.gc (.lst es))=some (.lst ds,st):=by
 refine gc_evL ?_ hd
 show(evs ((runK c n).ev τ) es st).bind _=_
 rw[h]
 simp only[Option.bind_some]
 rw[if_neg (by unfold lim; omega)]
 rfl
theorem gc_add{a b:E}{x y:D}{xs ys:List D}(ha:(runK c n).ev τ st a=some (x,st))(hb:(runK c n).ev τ st b=some (y,st))(hx:x=.lst xs)(hy:y=.lst ys)(hl:xs.length+ys.length≤1000000)(hd:noLocs (xs++ys)=true):(runK c (n+2)).ev τ st (.gc (.bin .Add a b))=some (.lst (xs++ys),st):=by
 subst hx hy
 refine gc_evL ?_ hd
 show((runK c n).ev τ st a).bind _=_
 rw[ha]
 simp only[Option.bind_some,hb,binop,seqAt]
 rw[if_neg (by unfold lim; omega)]
 rfl
theorem src_tup{i:Nat}{ds:List D}(h:τ[i]?=some (some (.tup ds))):src (runK c (n+1)) τ st (.var i)=some (.tup ds,st):=by
 simp only[src,ev_k,stepEv,h,Option.bind_some]
end
noncomputable def cSame(f:Nat):List S:=[
 .ite (.isi (.var 1) [.tup,.lst] true) [.ite (.or (.not (.isi (.var 0) [.tup,.lst] true)) (.cmp .NotEq (.bcall .len [(.var 0)]) (.bcall .len [(.var 1)]))) [.ret (.lit (.bl false))] [],.set (.var 2) (.bcall .all [(.gc (.comp (.var 0) (.rng1 (.bcall .len [(.var 1)])) none (.gc (.call f [(.idx (.var 1) (.var 0)),(.idx (.var 2) (.var 0))])) [none,some 0,some 1]))]),.ret (.and (.var 2) (.cmp .Eq (.isi (.var 0) [.tup] false) (.isi (.var 1) [.tup] false)))] [],
 .set (.var 2) (.cmp .Eq (.isi (.var 0) [.int] false) (.isi (.var 1) [.int] false)),
 .set (.var 2) (.and (.var 2) (.cmp .Eq (.isi (.var 0) [.bl] false) (.isi (.var 1) [.bl] false))),
 .ret (.and (.var 2) (.and (.cmp .Eq (.isi (.var 0) [.str] false) (.isi (.var 1) [.str] false)) (.cmp .Eq (.var 0) (.var 1))))]
noncomputable def fSame(f:Nat):Fn:=⟨2,3,cSame f⟩
inductive Dp:Nat→D→Prop
 |non {k}:Dp k .non
 |bl {k b}:Dp k (.bl b)
 |int {k i}:Dp k (.int i)
 |str {k s}:Dp k (.str s)
 |tup {k ds} (h:∀ d∈ds,Dp k d) (hl:ds.length<100000):Dp (k+1) (.tup ds)
 |lst {k ds} (h:∀ d∈ds,Dp k d) (hl:ds.length<100000):Dp (k+1) (.lst ds)
theorem Dp.noLoc{k:Nat}{d:D}(h:Dp k d):noLoc d=true:=by
 induction h with
 |tup h hl ih=>rw[noLoc_tup]; exact noLocs_of ih
 |lst h hl ih=>rw[noLoc_lst]; exact noLocs_of ih
 |_=>rfl
section
variable {fns:List Fn}{f:Nat}
theorem same_scal(hf:fns[f]?=some (fSame f))(q m:Nat)(st:Store)(d:D)(t:Ty)(ht:∀ S,tyName S d=some t)(h1:tyIs .tup t=false)(h2:tyIs .lst t=false)(hi:Bool)(e1:tyIs .int t=hi)(hb:Bool)(e2:tyIs .bl t=hb)(hs:Bool)(e3:tyIs .str t=hs)(he:∀ S,eqD S d d=some true):callD fns (m+1) f [d,d] st=some (.bl true,st):=by
 refine call_of (q+20) hf rfl rfl ?_
 show exs (stepEx (rn fns m (q+20))) (cSame f) [some d,some d,none] st=_
 unfold cSame
 rw[exs_cons (τ':=[some d,some d,none]) (s':=st) (by
  refine(stepEx_ite_f (st':=st) ?_).trans rfl
  simp only[tst_k,stepTst,ev_k,stepEv,List.getElem?_cons_succ,List.getElem?_cons_zero,Option.bind_some,ht,Option.map_some,List.any_cons,List.any_nil,h1,h2,truth,Bool.or_self])]
 rw[exs_cons (τ':=[some d,some d,some (.bl true)]) (s':=st) (by
  simp only[stepEx,ev_k,stepEv,List.getElem?_cons_succ,List.getElem?_cons_zero,Option.bind_some,ht,Option.map_some,List.any_cons,List.any_nil,e1,cmpD,Bool.or_false,eqD_bb,beq_self_eq_true]
  rfl)]
 rw[exs_cons (τ':=[some d,some d,some (.bl true)]) (s':=st) (by
  simp only[stepEx,ev_k,stepEv,List.getElem?_cons_succ,List.getElem?_cons_zero,Option.bind_some,ht,Option.map_some,List.any_cons,List.any_nil,e2,cmpD,Bool.or_false,eqD_bb,beq_self_eq_true]
  rfl)]
 refine exs_ret ?_
 simp only[stepEx,ev_k,stepEv,List.getElem?_cons_succ,List.getElem?_cons_zero,Option.bind_some,ht,Option.map_some,List.any_cons,List.any_nil,e3,cmpD,Bool.or_false,eqD_bb,beq_self_eq_true,he]
theorem same_row(hf:fns[f]?=some (fSame f))(q m:Nat)(st:Store)(d:D)(ds:List D)(k:Bool)(hd:(d=.tup ds∧k=true)∨(d=.lst ds∧k=false))(hl:ds.length<100000)(ih:∀ x∈ds,callD fns m f [x,x] st=some (.bl true,st)):callD fns (m+1) f [d,d] st=some (.bl true,st):=by
 have ty:∀ S,∃ t,tyName S d=some t∧(tyIs .tup t||tyIs .lst t)=true∧tyIs .tup t=k:=fun S=>by
  rcases hd with⟨rfl,rfl⟩|⟨rfl,rfl⟩
  ·exact⟨.tup,rfl,rfl,rfl⟩
  ·exact⟨.lst,rfl,rfl,rfl⟩
 have ln:∀ S,bLen S [d]=some (.int ds.length,S):=fun S=>by
  rcases hd with⟨rfl,rfl⟩|⟨rfl,rfl⟩
  ·rfl
  ·rfl
 have ix:∀ S (i:Nat) x,ds[i]?=some x→idxD S d (.int ((0:Int)+i))=some x:=fun S i x hx=>by
  have hi:=(List.getElem?_eq_some_iff.mp hx).1
  have h1:(0:Int)≤0+i:=by omega
  have h2:(0:Int)+i<ds.length:=by omega
  have h3:((0:Int)+i).toNat=i:=by omega
  rcases hd with⟨rfl,rfl⟩|⟨rfl,rfl⟩
  ·simp only[idxD,atI,ixN,h1,h2,h3,if_true,Option.bind_some,hx]
  ·simp only[idxD,seqAt,atI,ixN,h1,h2,h3,if_true,Option.bind_some,hx]
 obtain⟨t,t1,t2,t3⟩:=ty st
 have hb:big (ds.length:Int)=false:=by unfold big; simp; omega
 have cm:∀ n:Nat,(rn fns m (n+10)).ev [some d,some d,none] st (.gc (.comp (.var 0) (.rng1 (.bcall .len [(.var 1)])) none (.gc (.call f [(.idx (.var 1) (.var 0)),(.idx (.var 2) (.var 0))])) [none,some 0,some 1]))=some (.lst ((List.range ds.length).map fun _=>.bl true),st):=fun n=>by
  refine gc_comp (n:=n+8) (s:=.rng 0 ds.length) (rest:=[some d,some d]) (List.range ds.length) (fun(i:Nat)=>.int ((0:Int)+i)) (fun _=>.bl true) ?_ (fun i=>at_rng 0 _ i) (by simp[Src.size]) rfl (by simpa using (by omega:ds.length<1000000)) (fun _ _=>rfl) fun i hi=>?_
  ·simp only[src,ev_k,stepEv,evs,List.getElem?_cons_succ,List.getElem?_cons_zero,Option.bind_some,bfun,ln,hb,Bool.false_eq_true,if_false]
   rfl
  ·have hi:i<ds.length:=by simpa using hi
   have hx:ds[i]?=some ds[i]:=by simp
   refine gc_ev (n:=n+7) ?_ rfl
   simp only[ev_k,stepEv,evs,List.getElem?_cons_succ,List.getElem?_cons_zero,Option.bind_some,ix _ i _ hx,Option.map_some,call_k]
   exact ih _ (List.getElem_mem hi)
 refine call_of (q+20) hf rfl rfl ?_
 show exs (stepEx (rn fns m (q+20))) (cSame f) [some d,some d,none] st=_
 unfold cSame
 refine exs_ret ?_
 refine(stepEx_ite_t (st':=st) ?_).trans ?_
 ·simp only[tst_k,stepTst,ev_k,stepEv,List.getElem?_cons_succ,List.getElem?_cons_zero,Option.bind_some,t1,Option.map_some,List.any_cons,List.any_nil,Bool.or_false,t2,truth]
 rw[ex_k]
 rw[exs_cons (τ':=[some d,some d,none]) (s':=st) (by
  refine(stepEx_ite_f (st':=st) ?_).trans rfl
  simp only[tst_k,stepTst,ev_k,stepEv,evs,List.getElem?_cons_succ,List.getElem?_cons_zero,Option.bind_some,t1,Option.map_some,List.any_cons,List.any_nil,Bool.or_false,t2,truth,Bool.not_true,Bool.false_eq_true,if_false,bfun,ln,cmpD,neD,eqD_ii,beq_self_eq_true])]
 rw[exs_cons (τ':=[some d,some d,some (.bl true)]) (s':=st) (by
  have al:bAll st [.lst ((List.range ds.length).map fun _=>.bl true)]=some (.bl true,st):=by
   have:∀ n:Nat,asBools ((List.range n).map fun _=>D.bl true)=some (List.replicate n true):=fun n=>by
    rw[List.map_const',List.length_range]
    induction n with
    |zero=>rfl
    |succ n ih=>rw[List.replicate_succ,List.replicate_succ,asBools,ih]; rfl
   simp only[bAll,seqAt,Option.bind_some,this,Option.map_some]
   simp
  simp only[stepEx]
  rw[ev_k]
  simp only[stepEv,evs,cm,Option.bind_some,bfun,al]
  rfl)]
 refine exs_ret ?_
 simp only[stepEx,ev_k,stepEv,List.getElem?_cons_succ,List.getElem?_cons_zero,Option.bind_some,t1,Option.map_some,List.any_cons,List.any_nil,cmpD,Bool.or_false,eqD_bb,beq_self_eq_true]
theorem same_eq(hf:fns[f]?=some (fSame f)){k:Nat}{d:D}(h:Dp k d):∀ (m:Nat) (st:Store),k<m→callD fns m f [d,d] st=some (.bl true,st):=by
 induction h with
 |non=>intro m st hm; obtain⟨m,rfl⟩:∃ j,m=j+1:=⟨m - 1,by omega⟩; exact same_scal hf 0 m st .non .non (fun _=>rfl) rfl rfl _ rfl _ rfl _ rfl fun _=>eqD_nn _
 |@bl _ b=>intro m st hm; obtain⟨m,rfl⟩:∃ j,m=j+1:=⟨m - 1,by omega⟩; exact same_scal hf 0 m st (.bl b) .bl (fun _=>rfl) rfl rfl _ rfl _ rfl _ rfl fun _=>by rw[eqD_bb]; simp
 |@int _ b=>intro m st hm; obtain⟨m,rfl⟩:∃ j,m=j+1:=⟨m - 1,by omega⟩; exact same_scal hf 0 m st (.int b) .int (fun _=>rfl) rfl rfl _ rfl _ rfl _ rfl fun _=>by rw[eqD_ii]; simp
 |@str _ b=>intro m st hm; obtain⟨m,rfl⟩:∃ j,m=j+1:=⟨m - 1,by omega⟩; exact same_scal hf 0 m st (.str b) .str (fun _=>rfl) rfl rfl _ rfl _ rfl _ rfl fun _=>by rw[eqD_ss]; simp
 |@tup k ds h hl ih=>intro m st hm; obtain⟨m,rfl⟩:∃ j,m=j+1:=⟨m - 1,by omega⟩; exact same_row hf 0 m st _ ds true (.inl ⟨rfl,rfl⟩) hl fun x hx=>ih x hx m st (by omega)
 |@lst k ds h hl ih=>intro m st hm; obtain⟨m,rfl⟩:∃ j,m=j+1:=⟨m - 1,by omega⟩; exact same_row hf 0 m st _ ds false (.inr ⟨rfl,rfl⟩) hl fun x hx=>ih x hx m st (by omega)
end
end M
end
section
namespace M
open PySem (Str)
noncomputable def mk(cs:List Nat):Str:=⟨cs.toArray⟩
theorem mk_inj{a b:List Nat}(h:mk a=mk b):a=b:=by
 have:=congrArg (fun z:Str=>z.cps.toList) h
 exact this
theorem mk_beq(a b:List Nat):(mk a==mk b)=(a==b):=by
 rw[Bool.eq_iff_iff,beq_iff_eq,beq_iff_eq]
 exact⟨mk_inj,fun h=>by rw[h]⟩
theorem at0{α:Type}(a:α)(r:List α):atI (a::r) 0=some a:=by simp[atI,ixN]
noncomputable def natD(n:Nat):List Nat:=(Nat.toDigits 10 n).map Char.toNat
theorem str_nat{i:Int}(h:0≤i):Str.ofString (toString i)=mk (natD i.toNat):=by
 obtain⟨m,rfl⟩:=Int.eq_ofNat_of_zero_le h
 have e:=PySem.W.KIN.signs_num m
 have:∀ a b:Str,a.cps.toList=b.cps.toList→a=b:=fun a b q=>by
  obtain⟨x⟩:=a
  obtain⟨y⟩:=b
  have:x=y:=Array.toList_inj.mp q
  rw[this]
 exact this _ _ e
theorem natD_step{n:Nat}(h:10≤n):natD n=natD (n / 10)++[n % 10+48]:=by
 have hm:n % 10<10:=Nat.mod_lt n (by decide)
 have t:Nat.toDigits 10 (n / 10)++Nat.toDigits 10 (n % 10)=Nat.toDigits 10 (10*(n / 10)+n % 10):=Nat.toDigits_append_toDigits (by decide) (by omega) hm
 rw[Nat.div_add_mod]at t
 unfold natD
 rw[← t,List.map_append,Nat.toDigits_of_lt_base hm]
 congr 1
 have:∀ d:Nat,d<10→(Nat.digitChar d).toNat=d+48:=by decide
 simp[this _ hm]
theorem natD_small{n:Nat}(h:n<10):natD n=[n+48]:=by
 unfold natD
 rw[Nat.toDigits_of_lt_base h]
 have:∀ d:Nat,d<10→(Nat.digitChar d).toNat=d+48:=by decide
 simp[this _ h]
theorem t0:PySem.Str.ofString "0" = mk [48]:=by decide +kernel
theorem te:PySem.Str.ofString "" = mk []:=by decide +kernel
noncomputable def digs:List Nat:=[48,49,50,51,52,53,54,55,56,57]
theorem td:PySem.Str.ofString "0123456789" = mk digs:=by decide +kernel
theorem natD_len:∀ (k n:Nat),n<10 ^ (k+1)→(natD n).length≤k+1
 |0,n,h=>by rw[natD_small (by simpa using h)]; simp
 |k+1,n,h=>by
  by_cases h1:n<10
  ·rw[natD_small h1]; simp
  ·have:n / 10<10 ^ (k+1):=by
    rw[Nat.div_lt_iff_lt_mul (by decide)]
    rw[Nat.pow_succ]at h
    exact h
   have ih:=natD_len k (n / 10) this
   rw[natD_step (by omega),List.length_append,List.length_singleton]
   omega
def Sm(i:Int):Prop:=0≤i∧i<10 ^ 45
theorem Sm.log{i:Int}(h:Sm i):i.natAbs.log2<1920:=by
 obtain⟨h0,h1⟩:=h
 have h2:i.natAbs<10 ^ 45:=by omega
 by_cases hz:i.natAbs=0
 ·rw[hz]; decide
 ·exact(Nat.log2_lt hz).mpr (Nat.lt_of_lt_of_le h2 (Nat.le_trans (show 10 ^ 45≤2 ^ 150 by decide) (Nat.pow_le_pow_right (by decide) (by decide))))
theorem Sm.len{i:Int}(h:Sm i):(natD i.toNat).length≤45:=natD_len 44 i.toNat (by have:=h.1; have:=h.2; omega)
theorem Sm.str{i:Int}(h:Sm i)(S:Store):bStr S [.int i]=some (.str (mk (natD i.toNat)),S):=by
 simp only[bStr]
 rw[if_pos h.log,str_nat h.1]
end M
end
section
namespace M
open PySem (Str)
noncomputable def tD(p:List Nat):D:=.str (mk p)
noncomputable def iD(k:Nat):D:=.int (k:Int)
def nSm(k:Nat):Prop:=k<10 ^ 45
theorem nSm.sm{k:Nat}(h:nSm k):Sm (k:Int):=⟨by omega,by unfold nSm at h; omega⟩
theorem nSm.str{k:Nat}(h:nSm k)(S:Store):bStr S [iD k]=some (tD (natD k),S):=h.sm.str S
theorem nSm.len{k:Nat}(h:nSm k):(natD k).length≤45:=h.sm.len
theorem eq_tD(a b:List Nat):eqT (tD a) (tD b)=(a==b):=by
 show eqT (.str (mk a)) (.str (mk b))=_
 rw[eqT_ss,mk_beq]
theorem flats_map{α:Type}(g:α→D)(n:Nat)(h:∀ x,flat n (g x)=true):∀ xs:List α,flats n (xs.map g)=true
 |[]=>rfl
 |x::r=>by rw[List.map_cons,flats,h,flats_map g n h r]; rfl
theorem cutIx_nat(n d v:Nat):cutIx n d (some (v:Int))=min v n:=by
 show(if (v:Int)<0 then((v:Int)+(n:Int)).toNat else min (v:Int).toNat n)=_
 rw[if_neg (by omega)]
 rfl
theorem cut_take{α:Type}(xs:List α)(n:Nat)(h:n≤xs.length):cut xs none (some (n:Int))=xs.take n:=by
 unfold cut
 rw[cutIx_nat,Nat.min_eq_left h]
 rfl
theorem cut_drop{α:Type}(xs:List α)(n:Nat)(h:n≤xs.length):cut xs (some (n:Int)) none=xs.drop n:=by
 unfold cut
 rw[cutIx_nat,Nat.min_eq_left h]
 exact List.take_of_length_le (by rw[List.length_drop]; exact Nat.le_refl _)
theorem nl_tD(ws:List (List Nat)):noLocs (ws.map tD)=true:=noLocs_map fun _ _=>rfl
theorem seq_mid(A r:Store)(w:Bool)(ds:List D):seqAt (A++.lst w ds::r) (.loc A.length)=some ds:=by simp[seqAt,listAt]
theorem seq_end(A:Store)(w:Bool)(ds:List D):seqAt (A++[.lst w ds]) (.loc A.length)=some ds:=seq_mid A [] w ds
noncomputable def sD(ns:List Int):D:=.lst (ns.map D.int)
theorem drw{fns:List Fn}{g N:Nat}{ns:List Int}(hg:fns[g]?=some fDraw)(hN:1≤N)(hn:ns.length≤63)(st:Store)(k j many:Int)(hj:0≤j)(hj2:j<100000)(hm:0<many):callD fns N g [sD ns,.int k,.int j,.int many] st=some (.int (drawV ns k j many),st):=draw_eq hg hN hn hj hj2 hm
theorem gc_call{c:CF}{n f:Nat}{τ:Sl}{st:Store}{es:List E}{ds:List D}{d:D}(hes:evs ((runK c (n+1)).ev τ) es st=some (ds,st))(h:c f ds st=some (d,st))(hd:noLoc d=true):(runK c (n+3)).ev τ st (.gc (.call f es))=some (d,st):=by
 refine gc_ev (n:=n+2) ?_ hd
 show(evs ((runK c (n+1)).ev τ) es st).bind _=_
 rw[hes]
 exact h
theorem pA(S:Store)(a b:Int):binop S .Add (.int a) (.int b)=some (.int (a+b),S):=rfl
theorem getD_mem{α:Type}(xs:List α)(z:α)(i:Int)(h0:0≤i)(h1:i<xs.length):xs.getD i.toNat z∈xs:=by
 have h2:i.toNat<xs.length:=by omega
 rw[List.getD_eq_getElem?_getD,List.getElem?_eq_getElem h2]
 exact List.getElem_mem h2
theorem ix_lst{α:Type}(g:α→D)(xs:List α)(z:α)(i:Int)(h0:0≤i)(h1:i<xs.length)(S:Store):idxD S (.lst (xs.map g)) (.int i)=some (g (xs.getD i.toNat z)):=by
 have h2:i.toNat<xs.length:=by omega
 simp only[idxD,seqAt,Option.bind_some,atI,ixN,h0,if_true,List.length_map,h1,List.getElem?_map]
 rw[List.getD_eq_getElem?_getD,List.getElem?_eq_getElem h2]
 rfl
end M
end
section
namespace K05
open M
noncomputable def b_bounds:List M.S:=[
 .ret (.dic [(.lit (.str "day")),(.glo "DAYS" (.tup [(.int 1),(.int 400)])),(.lit (.str "folk")),(.glo "FOLK" (.tup [(.int 1),(.int 40)])),(.lit (.str "x")),(.tup [(.lit (.int 0)),(.bin .Sub (.idx (.var 0) (.lit (.int 0))) (.lit (.int 1)))]),(.lit (.str "y")),(.tup [(.lit (.int 0)),(.bin .Sub (.idx (.var 0) (.lit (.int 1))) (.lit (.int 1)))]),(.lit (.str "floor")),(.tup [(.lit (.int 0)),(.idx (.var 0) (.lit (.int 2)))]),(.lit (.str "below")),(.tup [(.lit (.int 1)),(.idx (.var 0) (.lit (.int 2)))]),(.lit (.str "side")),(.glo "SIDES" (.tup [(.int 0),(.int 1)])),(.lit (.str "line")),(.glo "LINES" (.tup [(.int 1),(.int 23)])),(.lit (.str "step")),(.glo "STEPS" (.tup [(.int 0),(.int 4)])),(.lit (.str "coins")),(.glo "COINS" (.tup [(.int 1),(.int 1000000)]))])]
noncomputable def f_bounds:M.Fn:=⟨1,1,b_bounds⟩
noncomputable def b_fits:List M.S:=[
 .ite (.or (.isi (.var 0) [.bl] false) (.not (.isi (.var 0) [.int] false))) [.ret (.lit (.bl false))] [],
 .ret (.cmp2 .LtE .LtE (.idx (.var 1) (.lit (.int 0))) (.var 0) (.idx (.var 1) (.lit (.int 1))))]
noncomputable def f_fits:M.Fn:=⟨2,2,b_fits⟩
noncomputable def b_all_fit:List M.S:=[
 .ite (.cmp .NotEq (.bcall .len [(.var 2)]) (.bcall .len [(.var 1)])) [.ret (.lit (.bl false))] [],
 .set (.var 3) (.gc (.call 0 [(.var 0)])),
 .ret (.bcall .all [(.gc (.comp (.tup [0,1]) (.zip (.var 2) (.var 1)) none (.gc (.call 1 [(.var 0),(.didx (.var 2) (.var 1))])) [none,none,some 3]))])]
noncomputable def f_all_fit:M.Fn:=⟨3,4,b_all_fit⟩
noncomputable def b_is_cell:List M.S:=[
 .ret (.and (.isi (.var 1) [.tup] false) (.gc (.call 2 [(.var 0),(.tup [(.lit (.str "x")),(.lit (.str "y"))]),(.var 1)])))]
noncomputable def f_is_cell:M.Fn:=⟨2,2,b_is_cell⟩
noncomputable def b_good_steps:List M.S:=[
 .ret (.and (.isi (.var 1) [.tup] false) (.gc (.call 2 [(.var 0),(.bin .Mult (.tup [(.lit (.str "step"))]) (.idx (.var 0) (.lit (.int 2)))),(.var 1)])))]
noncomputable def f_good_steps:M.Fn:=⟨2,2,b_good_steps⟩
noncomputable def b_good_outcrops:List M.S:=[
 .ite (.or (.not (.isi (.var 1) [.tup] false)) (.not (.cmp2 .LtE .LtE (.lit (.int 1)) (.bcall .len [(.var 1)]) (.glo "MOST_COLUMNS" (.int 16))))) [.ret (.lit (.bl false))] [],
 .ite (.not (.bcall .all [(.gc (.comp (.var 0) (.var 1) none (.gc (.call 3 [(.var 1),(.var 0)])) [none,some 0]))])) [.ret (.lit (.bl false))] [],
 .ret (.cmp .Eq (.lenset (.var 1)) (.bcall .len [(.var 1)]))]
noncomputable def f_good_outcrops:M.Fn:=⟨2,2,b_good_outcrops⟩
noncomputable def b_sound_vein:List M.S:=[
 .ret (.and (.cmp .Eq (.bcall .len [(.var 1)]) (.lit (.int 3))) (.and (.gc (.call 4 [(.var 0),(.idx (.var 1) (.lit (.int 1)))])) (.gc (.call 5 [(.var 0),(.idx (.var 1) (.lit (.int 2)))]))))]
noncomputable def f_sound_vein:M.Fn:=⟨2,2,b_sound_vein⟩
noncomputable def b_numbers_agree:List M.S:=[
 .ite (.cmp .Eq (.idx (.var 0) (.lit (.int 0))) (.lit (.str "stake"))) [.ret (.and (.cmp .LtE (.idx (.var 0) (.lit (.int 2))) (.idx (.var 0) (.lit (.int 4)))) (.cmp .LtE (.idx (.var 0) (.lit (.int 3))) (.idx (.var 0) (.lit (.int 5)))))] [],
 .ite (.cmp .Eq (.idx (.var 0) (.lit (.int 0))) (.lit (.str "pay"))) [.ret (.cmp .NotEq (.idx (.var 0) (.lit (.int 1))) (.idx (.var 0) (.lit (.int 2))))] [],
 .ret (.lit (.bl true))]
noncomputable def f_numbers_agree:M.Fn:=⟨1,1,b_numbers_agree⟩
noncomputable def b_sound:List M.S:=[
 .ite (.cmp .Eq (.idx (.var 1) (.lit (.int 0))) (.lit (.str "vein"))) [.ret (.call 6 [(.var 0),(.var 1)])] [],
 .ite (.gin true "ASKS" ["join","stake","work","sell","part","give","dig","pay"] (.idx (.var 1) (.lit (.int 0)))) [.ret (.lit (.bl false))] [],
 .ret (.and (.gc (.call 2 [(.var 0),(.gidx "ASKS" ["join","stake","work","sell","part","give","dig","pay"] [(.tup [(.str "day"),(.str "day"),(.str "below")]),(.tup [(.str "folk"),(.str "x"),(.str "y"),(.str "x"),(.str "y")]),(.tup [(.str "day")]),(.tup [(.str "day"),(.str "folk")]),(.tup [(.str "day"),(.str "side"),(.str "line"),(.str "folk")]),(.tup [(.str "day")]),(.tup [(.str "folk"),(.str "x"),(.str "y"),(.str "x"),(.str "y"),(.str "floor"),(.str "coins")]),(.tup [(.str "folk"),(.str "folk"),(.str "coins")])] (.idx (.var 1) (.lit (.int 0)))),(.gc (.sli (.var 1) (some (.lit (.int 1))) none))])) (.gc (.call 7 [(.var 1)])))]
noncomputable def f_sound:M.Fn:=⟨2,2,b_sound⟩
noncomputable def b_law_draw:List M.S:=[
 .set (.var 4) (.lit (.int 0)),
 .set (.var 5) (.lit (.int 1)),
 .ite (.cmp .Gt (.bcall .len [(.var 0)]) (.lit (.int 0))) [.set (.var 4) (.idx (.var 0) (.bin .Mod (.var 1) (.bcall .len [(.var 0)]))),.set (.var 5) (.bin .FloorDiv (.var 1) (.bcall .len [(.var 0)]))] [],
 .set (.var 6) (.var 4),
 .forr (.var 7) (.rng1 (.var 2)) [.set (.var 6) (.bin .FloorDiv (.var 6) (.bin .Pow (.lit (.int 10)) (.lit (.int 10))))],
 .ite (.and (.cmp .Eq (.var 5) (.lit (.int 0))) (.and (.cmp .GtE (.var 4) (.bin .Pow (.lit (.int 10)) (.lit (.int 18)))) (.cmp .Gt (.var 6) (.lit (.int 0))))) [.ret (.bin .Mod (.bin .Mod (.var 6) (.bin .Pow (.lit (.int 10)) (.lit (.int 10)))) (.var 3))] [],
 .set (.var 8) (.bin .Mod (.bin .Add (.bin .Add (.bin .Add (.bin .Mult (.var 4) (.lit (.int 7919))) (.bin .Mult (.var 1) (.lit (.int 104729)))) (.bin .Mult (.var 2) (.lit (.int 1299709)))) (.lit (.int 31))) (.lit (.int 1000000007))),
 .set (.var 9) (.bin .Mod (.bin .Add (.bin .Mult (.var 8) (.lit (.int 48271))) (.bin .FloorDiv (.var 4) (.lit (.int 1009)))) (.lit (.int 998244353))),
 .set (.var 9) (.bin .Mod (.bin .Add (.bin .Mult (.var 9) (.bin .Add (.bin .Mod (.var 8) (.lit (.int 9973))) (.lit (.int 1)))) (.var 2)) (.lit (.int 1000000009))),
 .ret (.bin .Mod (.bin .Mod (.bin .Add (.bin .Add (.bin .Mult (.var 8) (.lit (.int 69621))) (.bin .Mult (.var 9) (.lit (.int 40692)))) (.bin .FloorDiv (.var 9) (.lit (.int 1013)))) (.lit (.int 2147483647))) (.var 3))]
noncomputable def f_law_draw:M.Fn:=⟨4,10,b_law_draw⟩
noncomputable def b_law_same:List M.S:=[
 .ite (.isi (.var 1) [.tup,.lst] true) [.ite (.or (.not (.isi (.var 0) [.tup,.lst] true)) (.cmp .NotEq (.bcall .len [(.var 0)]) (.bcall .len [(.var 1)]))) [.ret (.lit (.bl false))] [],.set (.var 2) (.bcall .all [(.gc (.comp (.var 0) (.rng1 (.bcall .len [(.var 1)])) none (.gc (.call 10 [(.idx (.var 1) (.var 0)),(.idx (.var 2) (.var 0))])) [none,some 0,some 1]))]),.ret (.and (.var 2) (.cmp .Eq (.isi (.var 0) [.tup] false) (.isi (.var 1) [.tup] false)))] [],
 .set (.var 2) (.cmp .Eq (.isi (.var 0) [.int] false) (.isi (.var 1) [.int] false)),
 .set (.var 2) (.and (.var 2) (.cmp .Eq (.isi (.var 0) [.bl] false) (.isi (.var 1) [.bl] false))),
 .ret (.and (.var 2) (.and (.cmp .Eq (.isi (.var 0) [.str] false) (.isi (.var 1) [.str] false)) (.cmp .Eq (.var 0) (.var 1))))]
noncomputable def f_law_same:M.Fn:=⟨2,3,b_law_same⟩
noncomputable def b_law_size:List M.S:=[
 .set (.var 2) (.bin .Add (.lit (.int 1)) (.gc (.call 9 [(.var 0),(.var 1),(.lit (.int 0)),(.lit (.int 6))]))),
 .set (.var 3) (.bin .Add (.lit (.int 1)) (.gc (.call 9 [(.var 0),(.var 1),(.lit (.int 1)),(.lit (.int 6))]))),
 .set (.var 4) (.gc (.call 9 [(.var 0),(.var 1),(.lit (.int 2)),(.lit (.int 6))])),
 .set (.var 5) (.gc (.lst [(.tup [(.lit (.int 24)),(.bin .Add (.lit (.int 1)) (.bin .FloorDiv (.var 3) (.lit (.int 3)))),(.bin .FloorDiv (.var 4) (.lit (.int 2)))]),(.tup [(.bin .Add (.lit (.int 1)) (.bin .FloorDiv (.var 2) (.lit (.int 3)))),(.lit (.int 24)),(.bin .FloorDiv (.var 4) (.lit (.int 2)))])])),
 .set (.var 5) (.gc (.bin .Add (.var 5) (.gc (.lst [(.tup [(.bin .Add (.lit (.int 1)) (.bin .FloorDiv (.var 2) (.lit (.int 3)))),(.bin .Add (.lit (.int 1)) (.bin .FloorDiv (.var 3) (.lit (.int 3)))),(.lit (.int 12))]),(.tup [(.var 2),(.var 3),(.var 4)])])))),
 .ret (.idx (.var 5) (.bcall .min [(.lit (.int 3)),(.gc (.call 9 [(.var 0),(.var 1),(.lit (.int 3)),(.lit (.int 12))]))]))]
noncomputable def f_law_size:M.Fn:=⟨2,6,b_law_size⟩
noncomputable def b_law_rect:List M.S:=[
 .set (.var 5) (.gc (.bcall .sorted [(.gc (.lst [(.call 9 [(.var 0),(.var 1),(.var 2),(.var 3)]),(.call 9 [(.var 0),(.var 1),(.bin .Add (.var 2) (.lit (.int 1))),(.var 3)])]))])),
 .set (.var 6) (.gc (.bcall .sorted [(.gc (.lst [(.call 9 [(.var 0),(.var 1),(.bin .Add (.var 2) (.lit (.int 2))),(.var 4)]),(.call 9 [(.var 0),(.var 1),(.bin .Add (.var 2) (.lit (.int 3))),(.var 4)])]))])),
 .ret (.tup [(.idx (.var 5) (.lit (.int 0))),(.idx (.var 6) (.lit (.int 0))),(.idx (.var 5) (.lit (.int 1))),(.idx (.var 6) (.lit (.int 1)))])]
noncomputable def f_law_rect:M.Fn:=⟨5,7,b_law_rect⟩
noncomputable def b_law_steps:List M.S:=[
 .ret (.bcall .tuple [(.gc (.comp (.var 0) (.rng1 (.var 3)) none (.idx (.gc (.lst [(.lit (.int 0)),(.lit (.int 1)),(.lit (.int 2)),(.lit (.int 3)),(.lit (.int 4)),(.lit (.int 0)),(.lit (.int 0))])) (.gc (.call 9 [(.var 1),(.var 2),(.bin .Add (.var 3) (.var 0)),(.lit (.int 7))]))) [none,some 0,some 1,some 2]))])]
noncomputable def f_law_steps:M.Fn:=⟨4,4,b_law_steps⟩
noncomputable def b_law_outs:List M.S:=[
 .set (.var 4) (.bin .Mult (.idx (.var 3) (.lit (.int 0))) (.idx (.var 3) (.lit (.int 1)))),
 .set (.var 5) (.gc (.call 9 [(.var 0),(.var 1),(.var 2),(.var 4)])),
 .set (.var 6) (.bin .Add (.lit (.int 1)) (.gc (.call 9 [(.var 0),(.var 1),(.bin .Add (.var 2) (.lit (.int 1))),(.var 4)]))),
 .set (.var 7) (.lst []),
 .forr (.var 8) (.rng1 (.bin .Add (.lit (.int 1)) (.gc (.call 9 [(.var 0),(.var 1),(.bin .Add (.var 2) (.lit (.int 3))),(.idx (.gc (.lst [(.lit (.int 16)),(.lit (.int 4)),(.lit (.int 4)),(.lit (.int 4))])) (.gc (.call 9 [(.var 0),(.var 1),(.bin .Add (.var 2) (.lit (.int 2))),(.lit (.int 4))])))])))) [.set (.var 9) (.bin .Mod (.bin .Add (.var 5) (.bin .Mult (.var 8) (.var 6))) (.var 4)),.ite (.cmp .NotIn (.tup [(.bin .Mod (.var 9) (.idx (.var 3) (.lit (.int 0)))),(.bin .FloorDiv (.var 9) (.idx (.var 3) (.lit (.int 0))))]) (.var 7)) [.expr (.meth (.var 7) .append [(.tup [(.bin .Mod (.var 9) (.idx (.var 3) (.lit (.int 0)))),(.bin .FloorDiv (.var 9) (.idx (.var 3) (.lit (.int 0))))])])] []],
 .ret (.bcall .tuple [(.var 7)])]
noncomputable def f_law_outs:M.Fn:=⟨4,10,b_law_outs⟩
noncomputable def b_law_who:List M.S:=[
 .ret (.bin .Add (.lit (.int 1)) (.gc (.call 9 [(.var 0),(.var 1),(.var 2),(.idx (.gc (.lst [(.lit (.int 40)),(.lit (.int 4)),(.lit (.int 4)),(.lit (.int 4)),(.lit (.int 4)),(.lit (.int 4))])) (.gc (.call 9 [(.var 0),(.var 1),(.bin .Add (.var 2) (.lit (.int 1))),(.lit (.int 6))])))])))]
noncomputable def f_law_who:M.Fn:=⟨3,3,b_law_who⟩
noncomputable def b_law_pick:List M.S:=[
 .ite (.or (.cmp .Eq (.bcall .len [(.var 3)]) (.lit (.int 0))) (.cmp .Eq (.gc (.call 9 [(.var 0),(.var 1),(.var 2),(.lit (.int 14))])) (.lit (.int 0)))) [.ret (.bin .Add (.lit (.int 1)) (.gc (.call 9 [(.var 0),(.var 1),(.bin .Add (.var 2) (.lit (.int 1))),(.lit (.int 400))])))] [],
 .ret (.idx (.var 3) (.gc (.call 9 [(.var 0),(.var 1),(.bin .Add (.var 2) (.lit (.int 1))),(.bcall .len [(.var 3)])])))]
noncomputable def f_law_pick:M.Fn:=⟨4,4,b_law_pick⟩
noncomputable def b_law_vein:List M.S:=[
 .ret (.tup [(.lit (.str "vein")),(.gc (.call 13 [(.var 0),(.var 1),(.lit (.int 8)),(.idx (.var 2) (.lit (.int 2)))])),(.gc (.call 14 [(.var 0),(.var 1),(.lit (.int 1)),(.var 2)]))])]
noncomputable def f_law_vein:M.Fn:=⟨3,3,b_law_vein⟩
noncomputable def b_law_claim_fact:List M.S:=[
 .set (.var 5) (.gc (.call 16 [(.var 0),(.var 1),(.lit (.int 1)),(.var 4)])),
 .set (.var 6) (.gc (.call 15 [(.var 0),(.var 1),(.lit (.int 3))])),
 .set (.var 7) (.gc (.call 9 [(.var 0),(.var 1),(.lit (.int 5)),(.lit (.int 2))])),
 .set (.var 8) (.bin .Add (.lit (.int 1)) (.gc (.call 9 [(.var 0),(.var 1),(.lit (.int 6)),(.bcall .min [(.lit (.int 23)),(.idx (.var 3) (.var 7))])]))),
 .ite (.cmp .Lt (.var 2) (.lit (.int 3))) [.ret (.tup [(.lit (.str "work")),(.var 5)])] [],
 .ret (.idx (.gc (.lst [(.tup [(.lit (.str "sell")),(.var 5),(.var 6)]),(.tup [(.lit (.str "part")),(.var 5),(.var 7),(.var 8),(.var 6)]),(.tup [(.lit (.str "give")),(.var 5)])])) (.bin .Sub (.bin .FloorDiv (.var 2) (.lit (.int 2))) (.lit (.int 1))))]
noncomputable def f_law_claim_fact:M.Fn:=⟨5,9,b_law_claim_fact⟩
noncomputable def b_law_fact:List M.S:=[
 .set (.var 4) (.gc (.call 9 [(.var 0),(.var 1),(.lit (.int 0)),(.lit (.int 20))])),
 .set (.var 5) (.gc (.comp (.tup [0,1]) (.var 3) (some (.cmp .Eq (.idx (.var 1) (.lit (.int 0))) (.lit (.str "vein")))) (.var 0) [none,none])),
 .set (.var 6) (.gc (.comp (.tup [0,1]) (.var 3) (some (.cmp .In (.idx (.var 1) (.lit (.int 0))) (.tup [(.lit (.str "stake")),(.lit (.str "part"))]))) (.var 0) [none,none])),
 .ite (.or (.cmp .Lt (.var 4) (.lit (.int 3))) (.and (.cmp .Lt (.var 4) (.lit (.int 8))) (.cmp .Eq (.bcall .len [(.var 5)]) (.lit (.int 0))))) [.ret (.call 17 [(.var 0),(.var 1),(.var 2)])] [],
 .ite (.and (.cmp .Lt (.var 4) (.lit (.int 5))) (.cmp .Gt (.idx (.var 2) (.lit (.int 2))) (.lit (.int 0)))) [.set (.var 7) (.bin .Add (.lit (.int 1)) (.gc (.call 9 [(.var 0),(.var 1),(.lit (.int 5)),(.idx (.var 2) (.lit (.int 2)))]))),.ret (.tup [(.lit (.str "join")),(.gc (.call 16 [(.var 0),(.var 1),(.lit (.int 1)),(.var 5)])),(.gc (.call 16 [(.var 0),(.var 1),(.lit (.int 3)),(.var 5)])),(.var 7)])] [],
 .ite (.or (.cmp .Lt (.var 4) (.lit (.int 12))) (.and (.cmp .Lt (.var 4) (.lit (.int 17))) (.cmp .Eq (.bcall .len [(.var 6)]) (.lit (.int 0))))) [.ret (.bin .Add (.tup [(.lit (.str "stake")),(.gc (.call 15 [(.var 0),(.var 1),(.lit (.int 1))]))]) (.gc (.call 12 [(.var 0),(.var 1),(.lit (.int 3)),(.idx (.var 2) (.lit (.int 0))),(.idx (.var 2) (.lit (.int 1)))])))] [],
 .ret (.call 18 [(.var 0),(.var 1),(.bin .Sub (.var 4) (.lit (.int 12))),(.var 2),(.var 6)])]
noncomputable def f_law_fact:M.Fn:=⟨4,8,b_law_fact⟩
noncomputable def b_law_dig:List M.S:=[
 .set (.var 3) (.gc (.sli (.gc (.call 12 [(.var 0),(.var 1),(.lit (.int 1)),(.idx (.var 2) (.lit (.int 0))),(.idx (.var 2) (.lit (.int 1)))])) none (some (.lit (.int 2))))),
 .set (.var 4) (.bin .Add (.gc (.sli (.gc (.call 12 [(.var 0),(.var 1),(.lit (.int 5)),(.idx (.var 2) (.lit (.int 0))),(.idx (.var 2) (.lit (.int 1)))])) (some (.lit (.int 2))) none)) (.tup [(.gc (.call 9 [(.var 0),(.var 1),(.lit (.int 9)),(.bin .Add (.idx (.var 2) (.lit (.int 2))) (.lit (.int 1)))]))])),
 .set (.var 5) (.bin .Add (.lit (.int 1)) (.gc (.call 9 [(.var 0),(.var 1),(.lit (.int 10)),(.idx (.gc (.lst [(.lit (.int 9)),(.lit (.int 300)),(.bin .Pow (.lit (.int 10)) (.lit (.int 6)))])) (.gc (.call 9 [(.var 0),(.var 1),(.lit (.int 11)),(.lit (.int 3))])))]))),
 .ret (.bin .Add (.bin .Add (.bin .Add (.tup [(.lit (.str "dig")),(.gc (.call 15 [(.var 0),(.var 1),(.lit (.int 12))]))]) (.var 3)) (.var 4)) (.tup [(.var 5)]))]
noncomputable def f_law_dig:M.Fn:=⟨3,6,b_law_dig⟩
noncomputable def b_law_pay:List M.S:=[
 .set (.var 2) (.gc (.call 15 [(.var 0),(.var 1),(.lit (.int 1))])),
 .set (.var 3) (.gc (.call 15 [(.var 0),(.var 1),(.lit (.int 3))])),
 .ite (.cmp .Eq (.var 3) (.var 2)) [.set (.var 3) (.bin .Add (.bin .Mod (.var 2) (.lit (.int 40))) (.lit (.int 1)))] [],
 .ret (.tup [(.lit (.str "pay")),(.var 2),(.var 3),(.bin .Add (.lit (.int 1)) (.gc (.call 9 [(.var 0),(.var 1),(.lit (.int 5)),(.idx (.gc (.lst [(.lit (.int 9)),(.bin .Pow (.lit (.int 10)) (.lit (.int 6)))])) (.gc (.call 9 [(.var 0),(.var 1),(.lit (.int 6)),(.lit (.int 2))])))])))])]
noncomputable def f_law_pay:M.Fn:=⟨2,4,b_law_pay⟩
noncomputable def b_law_num:List M.S:=[
 .ret (.and (.isi (.var 0) [.int] false) (.and (.not (.isi (.var 0) [.bl] false)) (.cmp2 .LtE .LtE (.var 1) (.var 0) (.var 2))))]
noncomputable def f_law_num:M.Fn:=⟨3,3,b_law_num⟩
noncomputable def b_law_bounds:List M.S:=[
 .set (.var 2) (.tup [(.lit (.int 1)),(.lit (.int 400))]),
 .set (.var 3) (.tup [(.lit (.int 1)),(.lit (.int 40))]),
 .set (.var 4) (.tup [(.lit (.int 1)),(.bin .Pow (.lit (.int 10)) (.lit (.int 6)))]),
 .set (.var 5) (.tup [(.lit (.int 0)),(.bin .Sub (.idx (.var 0) (.lit (.int 0))) (.lit (.int 1)))]),
 .set (.var 6) (.tup [(.lit (.int 0)),(.bin .Sub (.idx (.var 0) (.lit (.int 1))) (.lit (.int 1)))]),
 .set (.var 7) (.dic [(.lit (.str "join")),(.lst [(.var 2),(.var 2),(.tup [(.lit (.int 1)),(.idx (.var 0) (.lit (.int 2)))])]),(.lit (.str "stake")),(.lst [(.var 3),(.var 5),(.var 6),(.var 5),(.var 6)]),(.lit (.str "work")),(.lst [(.var 2)])]),
 .dset (.var 7) (.lit (.str "sell")) (.lst [(.var 2),(.var 3)]),
 .dset (.var 7) (.lit (.str "part")) (.lst [(.var 2),(.tup [(.lit (.int 0)),(.lit (.int 1))]),(.tup [(.lit (.int 1)),(.lit (.int 23))]),(.var 3)]),
 .dset (.var 7) (.lit (.str "give")) (.lst [(.var 2)]),
 .dset (.var 7) (.lit (.str "dig")) (.lst [(.var 3),(.var 5),(.var 6),(.var 5),(.var 6),(.tup [(.lit (.int 0)),(.idx (.var 0) (.lit (.int 2)))]),(.var 4)]),
 .dset (.var 7) (.lit (.str "pay")) (.lst [(.var 3),(.var 3),(.var 4)]),
 .ret (.dgt (.var 7) (.var 1))]
noncomputable def f_law_bounds:M.Fn:=⟨2,8,b_law_bounds⟩
noncomputable def b_law_sound_vein:List M.S:=[
 .ite (.or (.cmp .NotEq (.bcall .len [(.var 1)]) (.lit (.int 3))) (.or (.not (.isi (.idx (.var 1) (.lit (.int 1))) [.tup] false)) (.not (.isi (.idx (.var 1) (.lit (.int 2))) [.tup] false)))) [.ret (.lit (.bl false))] [],
 .ite (.or (.cmp .NotEq (.bcall .len [(.idx (.var 1) (.lit (.int 1)))]) (.idx (.var 0) (.lit (.int 2)))) (.not (.bcall .all [(.gc (.comp (.var 0) (.idx (.var 1) (.lit (.int 1))) none (.gc (.call 22 [(.var 0),(.lit (.int 0)),(.lit (.int 4))])) [none]))]))) [.ret (.lit (.bl false))] [],
 .ite (.not (.cmp2 .LtE .LtE (.lit (.int 1)) (.bcall .len [(.idx (.var 1) (.lit (.int 2)))]) (.lit (.int 16)))) [.ret (.lit (.bl false))] [],
 .forr (.var 2) (.rng1 (.bcall .len [(.idx (.var 1) (.lit (.int 2)))])) [.set (.var 3) (.idx (.idx (.var 1) (.lit (.int 2))) (.var 2)),.ite (.or (.not (.isi (.var 3) [.tup] false)) (.or (.cmp .NotEq (.bcall .len [(.var 3)]) (.lit (.int 2))) (.cmp .In (.var 3) (.gc (.sli (.idx (.var 1) (.lit (.int 2))) none (some (.var 2))))))) [.ret (.lit (.bl false))] [],.ite (.or (.not (.gc (.call 22 [(.idx (.var 3) (.lit (.int 0))),(.lit (.int 0)),(.bin .Sub (.idx (.var 0) (.lit (.int 0))) (.lit (.int 1)))]))) (.not (.gc (.call 22 [(.idx (.var 3) (.lit (.int 1))),(.lit (.int 0)),(.bin .Sub (.idx (.var 0) (.lit (.int 1))) (.lit (.int 1)))])))) [.ret (.lit (.bl false))] []],
 .ret (.lit (.bl true))]
noncomputable def f_law_sound_vein:M.Fn:=⟨2,4,b_law_sound_vein⟩
noncomputable def b_law_sound:List M.S:=[
 .ite (.cmp .Eq (.idx (.var 1) (.lit (.int 0))) (.lit (.str "vein"))) [.ret (.call 24 [(.var 0),(.var 1)])] [],
 .set (.var 2) (.gc (.call 23 [(.var 0),(.idx (.var 1) (.lit (.int 0)))])),
 .ite (.or (.cmp .Is (.var 2) (.lit .non)) (.cmp .NotEq (.bcall .len [(.var 2)]) (.bin .Sub (.bcall .len [(.var 1)]) (.lit (.int 1))))) [.ret (.lit (.bl false))] [],
 .forr (.var 3) (.rng1 (.bcall .len [(.var 2)])) [.ite (.not (.gc (.call 22 [(.idx (.var 1) (.bin .Add (.var 3) (.lit (.int 1)))),(.idx (.idx (.var 2) (.var 3)) (.lit (.int 0))),(.idx (.idx (.var 2) (.var 3)) (.lit (.int 1)))]))) [.ret (.lit (.bl false))] []],
 .ite (.cmp .Eq (.idx (.var 1) (.lit (.int 0))) (.lit (.str "stake"))) [.ret (.and (.cmp .LtE (.idx (.var 1) (.lit (.int 2))) (.idx (.var 1) (.lit (.int 4)))) (.cmp .LtE (.idx (.var 1) (.lit (.int 3))) (.idx (.var 1) (.lit (.int 5)))))] [],
 .ret (.or (.cmp .NotEq (.idx (.var 1) (.lit (.int 0))) (.lit (.str "pay"))) (.cmp .NotEq (.idx (.var 1) (.lit (.int 1))) (.idx (.var 1) (.lit (.int 2)))))]
noncomputable def f_law_sound:M.Fn:=⟨2,4,b_law_sound⟩
noncomputable def b_law_some_fact:List M.S:=[
 .set (.var 3) (.gc (.call 9 [(.var 0),(.var 1),(.lit (.int 24)),(.lit (.int 5))])),
 .ite (.cmp .Eq (.var 3) (.lit (.int 0))) [.ret (.call 20 [(.var 0),(.var 1),(.var 2)])] [],
 .ite (.cmp .Eq (.var 3) (.lit (.int 1))) [.ret (.call 21 [(.var 0),(.var 1)])] [],
 .ret (.call 19 [(.var 0),(.var 1),(.var 2),(.gc (.lst [(.tup [(.lit (.int 7)),(.tup [(.lit (.str "vein"))])]),(.tup [(.bin .Add (.lit (.int 1)) (.gc (.call 9 [(.var 0),(.var 1),(.lit (.int 21)),(.lit (.int 400))]))),(.tup [(.lit (.str "stake"))])])]))])]
noncomputable def f_law_some_fact:M.Fn:=⟨3,4,b_law_some_fact⟩
noncomputable def b_law_thing:List M.S:=[
 .set (.var 3) (.gc (.lst [(.lit (.str "3")),(.lit (.str "")),(.lit (.str "work")),(.tup []),(.tup [(.lit (.int 1))]),(.tup [(.lit (.int 1)),(.lit (.int 2))]),(.tup [(.tup [(.lit (.int 0)),(.lit (.int 0))])]),(.tup [(.tup [(.lit (.int 0)),(.lit (.int 0))]),(.lit (.int 1))]),(.lit (.int 1)),(.lit (.int 0)),(.lit (.int 5)),(.neg (.lit (.int 1)))])),
 .ret (.idx (.var 3) (.gc (.call 9 [(.var 0),(.var 1),(.var 2),(.bcall .len [(.var 3)])])))]
noncomputable def f_law_thing:M.Fn:=⟨3,4,b_law_thing⟩
noncomputable def b_law_vein_bent:List M.S:=[
 .set (.var 4) (.idx (.var 3) (.lit (.int 1))),
 .set (.var 5) (.idx (.var 3) (.lit (.int 2))),
 .ite (.cmp .Eq (.var 2) (.lit (.int 4))) [.set (.var 4) (.cat (.var 4) (.tup [(.lit (.int 0))]))] [],
 .ite (.cmp .Eq (.var 2) (.lit (.int 5))) [.set (.var 4) (.gc (.sli (.var 4) (some (.lit (.int 1))) none))] [],
 .ite (.cmp .Eq (.var 2) (.lit (.int 6))) [.set (.var 5) (.cat (.var 5) (.tup [(.gc (.call 9 [(.var 0),(.var 1),(.lit (.int 73)),(.lit (.int 3))]))]))] [],
 .ite (.cmp .Eq (.var 2) (.lit (.int 7))) [.set (.var 5) (.tup [])] [],
 .ret (.tup [(.lit (.str "vein")),(.var 4),(.var 5)])]
noncomputable def f_law_vein_bent:M.Fn:=⟨4,6,b_law_vein_bent⟩
noncomputable def b_law_bent_fact:List M.S:=[
 .set (.var 3) (.gc (.call 9 [(.var 0),(.var 1),(.lit (.int 70)),(.lit (.int 9))])),
 .set (.var 4) (.gc (.call 27 [(.var 0),(.var 1),(.lit (.int 72))])),
 .ite (.cmp .Eq (.var 3) (.lit (.int 0))) [.set (.var 5) (.bin .Add (.lit (.int 1)) (.gc (.call 9 [(.var 0),(.var 1),(.lit (.int 71)),(.bcall .len [(.var 2)])]))),.ret (.bin .Add (.bin .Add (.gc (.sli (.var 2) none (some (.var 5)))) (.tup [(.var 4)])) (.gc (.sli (.var 2) (some (.var 5)) none)))] [],
 .set (.var 5) (.bin .Add (.lit (.int 1)) (.gc (.call 9 [(.var 0),(.var 1),(.lit (.int 71)),(.bin .Sub (.bcall .len [(.var 2)]) (.lit (.int 1)))]))),
 .ite (.cmp .Eq (.var 3) (.lit (.int 1))) [.ret (.bin .Add (.gc (.sli (.var 2) none (some (.var 5)))) (.gc (.sli (.var 2) (some (.bin .Add (.var 5) (.lit (.int 1)))) none)))] [],
 .ite (.cmp .Eq (.var 3) (.lit (.int 2))) [.ret (.bin .Add (.bin .Add (.gc (.sli (.var 2) none (some (.var 5)))) (.tup [(.var 4)])) (.gc (.sli (.var 2) (some (.bin .Add (.var 5) (.lit (.int 1)))) none)))] [],
 .set (.var 6) (.gc (.lst [(.lit (.str "Vein")),(.lit (.str "veins")),(.lit (.str "")),(.lit (.str "work ")),(.lit (.str "give")),(.lit (.str "stake")),(.lit (.str "work")),(.lit (.str "vein")),(.lit (.str "join")),(.lit (.str "sell")),(.lit (.str "part")),(.lit (.str "dig")),(.lit (.str "pay"))])),
 .ite (.cmp .Eq (.var 3) (.lit (.int 3))) [.ret (.bin .Add (.tup [(.idx (.var 6) (.gc (.call 9 [(.var 0),(.var 1),(.lit (.int 74)),(.lit (.int 13))])))]) (.gc (.sli (.var 2) (some (.lit (.int 1))) none)))] [],
 .ite (.cmp .Eq (.idx (.var 2) (.lit (.int 0))) (.lit (.str "vein"))) [.ret (.call 28 [(.var 0),(.var 1),(.var 3),(.var 2)])] [],
 .ret (.bin .Add (.gc (.sli (.var 2) none (some (.lit (.int 1))))) (.bcall .tuple [(.gc (.comp (.var 0) (.rng1 (.gc (.call 9 [(.var 0),(.var 1),(.lit (.int 75)),(.lit (.int 40))]))) none (.lit (.int 0)) [none]))]))]
noncomputable def f_law_bent_fact:M.Fn:=⟨3,7,b_law_bent_fact⟩
noncomputable def b_law:List M.S:=[
 .set (.var 1) (.gc (.call 11 [(.var 0),(.lit (.int 0))])),
 .set (.var 2) (.gc (.call 26 [(.var 0),(.lit (.int 1)),(.var 1)])),
 .ite (.cmp .Eq (.gc (.call 9 [(.var 0),(.lit (.int 2)),(.lit (.int 7)),(.lit (.int 6))])) (.lit (.int 0))) [.set (.var 3) (.bcall .min [(.lit (.int 18)),(.bin .Mult (.idx (.var 1) (.lit (.int 0))) (.idx (.var 1) (.lit (.int 1))))]),.set (.var 4) (.gc (.comp (.var 0) (.rng1 (.bin .Add (.lit (.int 1)) (.gc (.call 9 [(.var 0),(.lit (.int 2)),(.lit (.int 8)),(.var 3)])))) none (.tup [(.bin .Mod (.var 0) (.idx (.var 1) (.lit (.int 0)))),(.bin .FloorDiv (.var 0) (.idx (.var 1) (.lit (.int 0))))]) [none,some 1])),.set (.var 2) (.tup [(.lit (.str "vein")),(.gc (.call 13 [(.var 0),(.lit (.int 1)),(.lit (.int 0)),(.idx (.var 1) (.lit (.int 2)))])),(.bcall .tuple [(.var 4)])])] [],
 .ite (.cmp .Gt (.gc (.call 9 [(.var 0),(.lit (.int 2)),(.lit (.int 9)),(.lit (.int 5))])) (.lit (.int 0))) [.set (.var 2) (.gc (.call 29 [(.var 0),(.lit (.int 2)),(.var 2)]))] [],
 .ret (.call 10 [(.gc (.call 8 [(.var 1),(.var 2)])),(.gc (.call 25 [(.var 1),(.var 2)]))])]
noncomputable def f_law:M.Fn:=⟨1,5,b_law⟩
noncomputable def fns:List M.Fn:=[f_bounds,f_fits,f_all_fit,f_is_cell,f_good_steps,f_good_outcrops,f_sound_vein,f_numbers_agree,f_sound,f_law_draw,f_law_same,f_law_size,f_law_rect,f_law_steps,f_law_outs,f_law_who,f_law_pick,f_law_vein,f_law_claim_fact,f_law_fact,f_law_dig,f_law_pay,f_law_num,f_law_bounds,f_law_sound_vein,f_law_sound,f_law_some_fact,f_law_thing,f_law_vein_bent,f_law_bent_fact,f_law]
theorem hDraw:fns[9]?=some fDraw:=rfl
theorem hSame:fns[10]?=some (fSame 10):=rfl
noncomputable def cD(p:Int×Int):D:=.tup [.int p.1,.int p.2]
noncomputable def wVein:List Nat:=[118,101,105,110]
theorem xVein:PySem.Str.ofString "vein" = mk wVein:=by decide +kernel
inductive Fact where
 |word (w:List Nat) (ks:List Int)
 |vein (ss:List Int) (cs:List (Int×Int))
noncomputable def fD:Fact→D
 |.word w ks=>.tup (tD w::ks.map D.int)
 |.vein ss cs=>.tup [tD wVein,.tup (ss.map D.int),.tup (cs.map cD)]
noncomputable def wordsN:List (List Nat×Nat):=[([106,111,105,110],3),([115,116,97,107,101],5),([119,111,114,107],1),([115,101,108,108],2),([112,97,114,116],4),([103,105,118,101],1),([100,105,103],7),([112,97,121],3)]
noncomputable def Fact.ok:Fact→Prop
 |.word w ks=>(w,ks.length)∈wordsN
 |.vein ss cs=>ss.length≤20∧cs.length≤20∧cs≠[]
theorem cD_nl(cs:List (Int×Int)):noLocs (cs.map cD)=true:=noLocs_map fun _ _=>rfl
theorem iN(is:List Int):noLocs (is.map D.int)=true:=noLocs_map fun _ _=>rfl
theorem fD_nl(f:Fact):noLoc (fD f)=true:=by
 cases f with
 |word w ks=>rw[fD,noLoc_tup,noLocs_cons,iN]; rfl
 |vein ss cs=>rw[fD,noLoc_tup,noLocs_cons,noLocs_cons,noLocs_cons,noLoc_tup,noLoc_tup,iN,cD_nl]; rfl
open PySem (Str)
theorem eq_tt(S:Store)(a b:List Nat):eqD S (tD a) (tD b)=some (a==b):=by
 show eqD S (.str (mk a)) (.str (mk b))=_
 rw[eqD_ss,mk_beq]
theorem ix0(S:Store)(a:D)(r:List D):idxD S (.tup (a::r)) (.int 0)=some a:=by
 simp[idxD,atI,ixN]
open PySem (Str)
theorem dex{ns:List Int}(hn:ns.length≤63){N:Nat}(hN:1≤N)(k j many:Int)(hj:0≤j)(hj2:j<1000)(hm:0<many):∃ v,0≤v∧v<many∧∀ st,callD fns N 9 [sD ns,.int k,.int j,.int many] st=some (.int v,st):=
 ⟨drawV ns k j many,drawV_lo ns k j hm,drawV_hi ns k j hm,fun st=>drw hDraw hN hn st k j many hj (by omega) hm⟩
theorem pk{c:CF}{n:Nat}{τ:Sl}{st:Store}{es:List E}{e:E}(xs:List Int){i:Int}(hes:evs ((runK c n).ev τ) es st=some (xs.map D.int,st))(he:(runK c (n+2)).ev τ st e=some (.int i,st))(h0:0≤i)(h1:i<xs.length)(hl:xs.length≤1000):
  (runK c (n+3)).ev τ st (.idx (.gc (.lst es)) e)=some (.int (xs.getD i.toNat 0),st):=by
 have l:=gc_lit hes (by rw[List.length_map]; exact hl) (noLocs_map fun _ _=>rfl)
 exact evX l he (ix_lst D.int xs 0 i h0 h1 st)
theorem ret_ok{c:CF}{n:Nat}{τ:Sl}{st st':Store}{e:E}{d:D}{b:List S}(h:(runK c n).ev τ st e=some (d,st')):exs (stepEx (runK c n)) (.ret e::b) τ st=some (.rt d,st'):=by
 refine exs_ret ?_
 simp only[stepEx,h,Option.map_some]
theorem exs_ite_f{c:CF}{n:Nat}{τ:Sl}{st:Store}{e:E}{a b:List S}(h:(runK c (n+1)).tst τ st e=some (false,st)):exs (stepEx (runK c (n+1))) (.ite e a []::b) τ st=exs (stepEx (runK c (n+1))) b τ st:=
 exs_cons ((stepEx_ite_f (st':=st) h).trans rfl)
theorem exs_ite_t{c:CF}{n:Nat}{τ:Sl}{st:Store}{e:E}{a b:List S}{o:D}{st':Store}(h:(runK c (n+1)).tst τ st e=some (true,st))(hr:exs (stepEx (runK c n)) a τ st=some (.rt o,st')):exs (stepEx (runK c (n+1))) (.ite e a []::b) τ st=some (.rt o,st'):=
 exs_ret ((stepEx_ite_t (st':=st) h).trans hr)
theorem tst_or{c:CF}{n:Nat}{τ:Sl}{st:Store}{a b:E}{x y:Bool}(ha:(runK c n).tst τ st a=some (x,st))(hb:x=false→(runK c n).tst τ st b=some (y,st)):(runK c (n+1)).tst τ st (.or a b)=some (x||y,st):=by
 rw[tst_k]
 simp only[stepTst,ha,Option.bind_some]
 cases x with
 |true=>rfl
 |false=>rw[hb rfl]; rfl
theorem len_l{c:CF}{n:Nat}{τ:Sl}{st:Store}{e:E}{ds:List D}(a:(runK c n).ev τ st e=some (.lst ds,st)):(runK c (n+1)).ev τ st (.bcall .len [e])=some (.int ds.length,st):=by
 rw[ev_k]
 simp only[stepEv,evs,a,Option.bind_some,bfun,bLen,seqAt,Option.map_some]
theorem tst_i{c:CF}{n:Nat}{τ:Sl}{st:Store}{a:E}{x y:Int}(ha:(runK c (n+1)).ev τ st a=some (.int x,st)):(runK c (n+2)).tst τ st (.cmp .Eq a (.lit (.int y)))=some (x==y,st):=tCmp ha rfl (eqD_ii st x y)
theorem ev_tup{c:CF}{n:Nat}{τ:Sl}{st:Store}{es:List E}{ds:List D}(h:evs ((runK c n).ev τ) es st=some (ds,st))(hl:ds.length≤1000):(runK c (n+1)).ev τ st (.tup es)=some (.tup ds,st):=by
 rw[ev_k]
 simp only[stepEv,h,Option.bind_some]
 rw[if_neg (by unfold lim; omega)]
theorem evs2{f:Store→E→Option (D×Store)}{e:E}{es:List E}{st:Store}{d:D}{ds:List D}(h:f st e=some (d,st))(t:evs f es st=some (ds,st)):evs f (e::es) st=some (d::ds,st):=by
 simp only[evs,h,t,Option.bind_some]
section
variable {ns:List Int}(hn:ns.length≤63){m:Nat}
include hn
theorem dd(hN:1≤m)(k j j2:Int)(h1:0≤j)(h2:j<1000)(h3:0≤j2)(h4:j2<1000)(B:Int)(xs:List Int)(hx:∀ x∈xs,0<x∧x≤B)(cnt:Int)(hc:cnt=xs.length)(hl:0<xs.length)(hl2:xs.length≤1000):
  ∃ v:Int,0≤v∧v<B∧∀ (T:Sl) (st:Store) (J J2:E) (es:List E) (n:Nat),T[0]?=some (some (sD ns))→T[1]?=some (some (.int k))→(∀ q,(rn fns m (q+2)).ev T st J=some (.int j,st))→(∀ q,(rn fns m (q+2)).ev T st J2=some (.int j2,st))→(∀ q,evs ((rn fns m (q+3)).ev T) es st=some (xs.map D.int,st))→
   (rn fns m (n+12)).ev T st (.bin .Add (.lit (.int 1)) (.gc (.call 9 [(.var 0),(.var 1),J,.idx (.gc (.lst es)) (.gc (.call 9 [(.var 0),(.var 1),J2,.lit (.int cnt)]))])))=some (.int (1+v),st):=by
 obtain⟨a,a0,a1,ea⟩:=dex hn hN k j2 cnt h3 h4 (by omega)
 have hm:=hx _ (getD_mem xs 0 a a0 (by omega))
 generalize hq:xs.getD a.toNat 0=q at hm
 obtain⟨v,v0,v1,ev⟩:=dex hn hN k j q h1 h2 hm.1
 refine⟨v,v0,by omega,fun T st J J2 es n t0 t1 e1 e2 e3=>evB (n:=n+11) (a:=.int 1) (b:=.int v) rfl (gc_call (n:=n+8) (ds:=[sD ns,.int k,.int j,.int q]) ?_ (ev st) rfl) (pA _ _ _)⟩
 have g:=gc_call (c:=callD fns m) (n:=n+5) (τ:=T) (st:=st) (f:=9) (es:=[(.var 0),(.var 1),J2,.lit (.int cnt)]) (ds:=[sD ns,.int k,.int j2,.int cnt]) (evs2 (evV t0) (evs2 (evV t1) (evs2 (e2 (n+4)) (evs2 rfl rfl)))) (ea st) rfl
 have p:=pk (n:=n+6) xs (e3 (n+3)) g a0 (by omega) hl2
 rw[hq]at p
 exact evs2 (evV t0) (evs2 (evV t1) (evs2 (e1 (n+7)) (evs2 p rfl)))
theorem who_ok(hm:2≤m)(k j:Int)(hj:0≤j)(hj2:j<900):∃ i,∀ st,callD fns m 15 [sD ns,.int k,.int j] st=some (.int i,st):=by
 obtain⟨m,rfl⟩:∃ q,m=q+1:=⟨m - 1,by omega⟩
 obtain⟨v,_,_,e⟩:=dd hn (m:=m) (by omega) k j (j+1) hj (by omega) (by omega) (by omega) 40 [40,4,4,4,4,4] (by decide) 6 rfl (by simp) (by simp)
 exact⟨1+v,fun st=>call_of 20 (F:=f_law_who) rfl rfl rfl (ret_ok (e [some (sD ns),some (.int k),some (.int j)] st _ _ _ 8 rfl rfl (fun _=>rfl) (fun _=>rfl) (fun _=>rfl)))⟩
theorem pick_ok(hm:2≤m)(k j:Int)(hj:0≤j)(hj2:j<900)(xs:List Int):∃ i,∀ st,callD fns m 16 [sD ns,.int k,.int j,.lst (xs.map D.int)] st=some (.int i,st):=by
 obtain⟨m,rfl⟩:∃ q,m=q+1:=⟨m - 1,by omega⟩
 obtain⟨a,a0,a1,ea⟩:=dex hn (N:=m) (by omega) k j 14 (by omega) (by omega) (by omega)
 obtain⟨b,b0,b1,eb⟩:=dex hn (N:=m) (by omega) k (j+1) 400 (by omega) (by omega) (by omega)
 have ln:∀ st (n:Nat),(rn fns m (n+2)).ev [some (sD ns),some (.int k),some (.int j),some (.lst (xs.map D.int))] st (.bcall .len [(.var 3)])=some (.int xs.length,st):=fun st n=>(len_l (n:=n+1) (ds:=xs.map D.int) rfl).trans (by rw[List.length_map])
 have t1:=fun st=>tst_or (c:=callD fns m) (n:=19) (τ:=[some (sD ns),some (.int k),some (.int j),some (.lst (xs.map D.int))]) (st:=st) (tst_i (n:=17) (y:=0) (ln st 16)) fun _=>tst_i (n:=17) (a:=.gc (.call 9 [(.var 0),(.var 1),(.var 2),(.lit (.int 14))])) (y:=0) (gc_call (n:=15) (ds:=[sD ns,.int k,.int j,.int 14]) rfl (ea st) rfl)
 cases h:((xs.length:Int)==0||a==0) with
 |true=>
  refine⟨1+b,fun st=>call_of 20 (F:=f_law_pick) rfl rfl rfl ?_⟩
  have t:=t1 st
  rw[h]at t
  exact exs_ite_t (n:=19) t (ret_ok (n:=19) (evB (n:=18) (a:=.int 1) (b:=.int b) rfl (gc_call (n:=15) (ds:=[sD ns,.int k,.int (j+1),.int 400]) rfl (eb st) rfl) (pA _ _ _)))
 |false=>
  rw[Bool.or_eq_false_iff,beq_eq_false_iff_ne]at h
  obtain⟨c,c0,c1,ec⟩:=dex hn (N:=m) (by omega) k (j+1) (xs.length:Int) (by omega) (by omega) (by omega)
  refine⟨xs.getD c.toNat 0,fun st=>call_of 20 (F:=f_law_pick) rfl rfl rfl ?_⟩
  have t:=t1 st
  rw[show((xs.length:Int)==0||a==0)=false by rw[Bool.or_eq_false_iff,beq_eq_false_iff_ne]; exact h]at t
  refine(exs_ite_f (n:=19) t).trans (ret_ok (evX (n:=19) (x:=.lst (xs.map D.int)) rfl (gc_call (n:=16) (ds:=[sD ns,.int k,.int (j+1),.int xs.length]) ?_ (ec st) rfl) (ix_lst D.int xs 0 c c0 c1 st)))
  exact evs2 rfl (evs2 rfl (evs2 rfl (evs2 (ln st 15) rfl)))
omit hn in
theorem xPay:PySem.Str.ofString "pay" = mk [112,97,121]:=by decide +kernel
omit hn in
theorem pMod{a b:Int}(S:Store)(h:0<b):binop S .Mod (.int a) (.int b)=some (.int (a % b),S):=bMo S a h
omit hn in
theorem pDiv{a b:Int}(S:Store)(h:0<b)(h2:b<2 ^ 64):binop S .FloorDiv (.int a) (.int b)=some (.int (a / b),S):=bDi S a h h2
theorem pay_ok(hm:3≤m)(k:Int):∃ f:Fact,f.ok∧∀ st,callD fns m 21 [sD ns,.int k] st=some (fD f,st):=by
 obtain⟨m,rfl⟩:∃ q,m=q+1:=⟨m - 1,by omega⟩
 obtain⟨g,eg⟩:=who_ok hn (m:=m) (by omega) k 1 (by decide) (by decide)
 obtain⟨t,et⟩:=who_ok hn (m:=m) (by omega) k 3 (by decide) (by decide)
 obtain⟨v,_,_,ev⟩:=dd hn (m:=m) (by omega) k 5 6 (by decide) (by decide) (by decide) (by decide) (10 ^ 6) [9,10 ^ 6] (by decide) 2 rfl (by simp) (by simp)
 obtain⟨u,eu⟩:∃ u:Int,∀ st,stepEx (rn fns m 20) [some (sD ns),some (.int k),some (.int g),some (.int t)] st (.ite (.cmp .Eq (.var 3) (.var 2)) [.set (.var 3) (.bin .Add (.bin .Mod (.var 2) (.lit (.int 40))) (.lit (.int 1)))] [])=some (.nx [some (sD ns),some (.int k),some (.int g),some (.int u)],st):=by
  have tt:=fun st=>tCmp (c:=callD fns m) (n:=19) (τ:=[some (sD ns),some (.int k),some (.int g),some (.int t)]) (st:=st) (op:=.Eq) (a:=.var 3) (b:=.var 2) (x:=.int t) (y:=.int g) rfl rfl (eqD_ii st t g)
  cases h:t==g with
  |true=>exact⟨g % 40+1,fun st=>(stepEx_ite_t (st':=st) ((tt st).trans (by rw[h]))).trans rfl⟩
  |false=>exact⟨t,fun st=>(stepEx_ite_f (st':=st) ((tt st).trans (by rw[h]))).trans rfl⟩
 refine⟨.word [112,97,121] [g,u,1+v],by simp[Fact.ok,wordsN],fun st=>call_of 20 (F:=f_law_pay) rfl rfl rfl ?_⟩
 show exs (stepEx (rn fns m 20)) b_law_pay [some (sD ns),some (.int k),none,none] st=_
 unfold b_law_pay
 rw[xPay]
 refine(exs_cons (τ':=[some (sD ns),some (.int k),some (.int g),none]) (s':=st) (stS (gc_call (n:=17) (ds:=[sD ns,.int k,.int 1]) rfl (eg st) rfl) rfl)).trans ?_
 refine(exs_cons (τ':=[some (sD ns),some (.int k),some (.int g),some (.int t)]) (s':=st) (stS (gc_call (n:=17) (ds:=[sD ns,.int k,.int 3]) rfl (et st) rfl) rfl)).trans ?_
 refine(exs_cons (eu st)).trans (ret_ok (ev_tup (n:=19) ?_ (by simp)))
 exact evs2 rfl (evs2 rfl (evs2 rfl (evs2 (ev _ st _ _ _ 7 rfl rfl (fun _=>rfl) (fun _=>rfl) (fun _=>rfl)) rfl)))
omit hn in
theorem sort2(a b:Int):∃ lo hi,sortInt [a,b]=[lo,hi]:=by
 by_cases h:a≤b
 ·exact⟨a,b,by simp[sortInt,insInt,h]⟩
 ·exact⟨b,a,by simp[sortInt,insInt,h]⟩
omit hn in
theorem gc_sort{c:CF}{n:Nat}{τ:Sl}{st:Store}{e1 e2:E}{a b lo hi:Int}(h1:(runK c n).ev τ st e1=some (.int a,st))(h2:(runK c n).ev τ st e2=some (.int b,st))(hs:sortInt [a,b]=[lo,hi]):(runK c (n+4)).ev τ st (.gc (.bcall .sorted [(.gc (.lst [e1,e2]))]))=some (.lst [.int lo,.int hi],st):=by
 refine gc_evL (n:=n+3) ?_ rfl
 have l:=gc_lit (c:=c) (n:=n) (τ:=τ) (st:=st) (es:=[e1,e2]) (ds:=[.int a,.int b]) (evs2 h1 (evs2 h2 rfl)) (by simp) rfl
 rw[ev_k]
 have ls:¬ 64≤[D.int a,D.int b].length:=by simp
 simp only[stepEv,evs,l,Option.bind_some,bfun,bSorted,seqAt,ls,if_false,asInts,Option.map_some,hs]
 rfl
theorem rect_ok(hm:2≤m)(k j wide tall:Int)(hj:0≤j)(hj2:j<900)(hw:0<wide)(ht:0<tall):∃ a b c d:Int,∀ st,callD fns m 12 [sD ns,.int k,.int j,.int wide,.int tall] st=some (.tup [.int a,.int b,.int c,.int d],st):=by
 obtain⟨m,rfl⟩:∃ q,m=q+1:=⟨m - 1,by omega⟩
 obtain⟨r1,_,_,e1⟩:=dex hn (N:=m) (by omega) k j wide (by omega) (by omega) hw
 obtain⟨r2,_,_,e2⟩:=dex hn (N:=m) (by omega) k (j+1) wide (by omega) (by omega) hw
 obtain⟨r3,_,_,e3⟩:=dex hn (N:=m) (by omega) k (j+2) tall (by omega) (by omega) ht
 obtain⟨r4,_,_,e4⟩:=dex hn (N:=m) (by omega) k (j+3) tall (by omega) (by omega) ht
 obtain⟨a,c,s1⟩:=sort2 r1 r2
 obtain⟨b,d,s2⟩:=sort2 r3 r4
 refine⟨a,b,c,d,fun st=>call_of 20 (F:=f_law_rect) rfl rfl rfl ?_⟩
 show exs (stepEx (rn fns m 20)) b_law_rect [some (sD ns),some (.int k),some (.int j),some (.int wide),some (.int tall),none,none] st=_
 unfold b_law_rect
 refine(exs_cons (τ':=[some (sD ns),some (.int k),some (.int j),some (.int wide),some (.int tall),some (.lst [.int a,.int c]),none]) (s':=st) (stS (gc_sort (c:=callD fns m) (n:=16) (τ:=[some (sD ns),some (.int k),some (.int j),some (.int wide),some (.int tall),none,none]) (e1:=.call 9 [(.var 0),(.var 1),(.var 2),(.var 3)]) (e2:=.call 9 [(.var 0),(.var 1),(.bin .Add (.var 2) (.lit (.int 1))),(.var 3)]) (e1 st) (e2 st) s1) rfl)).trans ?_
 exact(exs_cons (τ':=[some (sD ns),some (.int k),some (.int j),some (.int wide),some (.int tall),some (.lst [.int a,.int c]),some (.lst [.int b,.int d])]) (s':=st) (stS (gc_sort (c:=callD fns m) (n:=16) (τ:=[some (sD ns),some (.int k),some (.int j),some (.int wide),some (.int tall),some (.lst [.int a,.int c]),none]) (e1:=.call 9 [(.var 0),(.var 1),(.bin .Add (.var 2) (.lit (.int 2))),(.var 4)]) (e2:=.call 9 [(.var 0),(.var 1),(.bin .Add (.var 2) (.lit (.int 3))),(.var 4)]) (e3 st) (e4 st) s2) rfl)).trans (exs_ret rfl)
noncomputable def zD(w t d:Int):D:=.tup [.int w,.int t,.int d]
theorem size_ok(hm:2≤m)(k:Int):∃ w t d:Int,1≤w∧w≤24∧1≤t∧t≤24∧0≤d∧d≤12∧∀ st,callD fns m 11 [sD ns,.int k] st=some (zD w t d,st):=by
 obtain⟨m,rfl⟩:∃ q,m=q+1:=⟨m - 1,by omega⟩
 obtain⟨a,a0,a1,ea⟩:=dex hn (N:=m) (by omega) k 0 6 (by decide) (by decide) (by decide)
 obtain⟨b,b0,b1,eb⟩:=dex hn (N:=m) (by omega) k 1 6 (by decide) (by decide) (by decide)
 obtain⟨c,c0,c1,ec⟩:=dex hn (N:=m) (by omega) k 2 6 (by decide) (by decide) (by decide)
 obtain⟨x,x0,x1,ex⟩:=dex hn (N:=m) (by omega) k 3 12 (by decide) (by decide) (by decide)
 let L:List (Int×Int×Int):=[(24,1+(1+b) / 3,c / 2),(1+(1+a) / 3,24,c / 2),(1+(1+a) / 3,1+(1+b) / 3,12),(1+a,1+b,c)]
 let g:Int×Int×Int→D:=fun p=>zD p.1 p.2.1 p.2.2
 obtain⟨y,hy⟩:∃ y:Int,y=if x<3 then x else 3:=⟨_,rfl⟩
 have y0:0≤y:=by rw[hy]; split<;>omega
 have y1:y<(L.length:Nat):=by show y<(4:Int); rw[hy]; split<;>omega
 have hp:=getD_mem L (24,1,0) y y0 y1
 have hi:=ix_lst g L (24,1,0) y y0 y1
 generalize L.getD y.toNat (24,1,0)=p at hp hi
 have bd:1≤p.1∧p.1≤24∧1≤p.2.1∧p.2.1≤24∧0≤p.2.2∧p.2.2≤12:=by
  simp only[L,List.mem_cons,List.not_mem_nil,or_false]at hp
  rcases hp with rfl|rfl|rfl|rfl<;>simp only<;>omega
 refine⟨p.1,p.2.1,p.2.2,bd.1,bd.2.1,bd.2.2.1,bd.2.2.2.1,bd.2.2.2.2.1,bd.2.2.2.2.2,fun st=>call_of 20 (F:=f_law_size) rfl rfl rfl ?_⟩
 show exs (stepEx (rn fns m 20)) b_law_size [some (sD ns),some (.int k),none,none,none,none] st=_
 unfold b_law_size
 refine(exs_cons (τ':=[some (sD ns),some (.int k),some (.int (1+a)),none,none,none]) (s':=st) (stS (evB (n:=19) (a:=.int 1) (b:=.int a) rfl (gc_call (n:=16) (ds:=[sD ns,.int k,.int 0,.int 6]) rfl (ea st) rfl) (pA _ _ _)) rfl)).trans ?_
 refine(exs_cons (τ':=[some (sD ns),some (.int k),some (.int (1+a)),some (.int (1+b)),none,none]) (s':=st) (stS (evB (n:=19) (a:=.int 1) (b:=.int b) rfl (gc_call (n:=16) (ds:=[sD ns,.int k,.int 1,.int 6]) rfl (eb st) rfl) (pA _ _ _)) rfl)).trans ?_
 refine(exs_cons (τ':=[some (sD ns),some (.int k),some (.int (1+a)),some (.int (1+b)),some (.int c),none]) (s':=st) (stS (gc_call (n:=17) (ds:=[sD ns,.int k,.int 2,.int 6]) rfl (ec st) rfl) rfl)).trans ?_
 refine(exs_cons (τ':=[some (sD ns),some (.int k),some (.int (1+a)),some (.int (1+b)),some (.int c),some (.lst [zD 24 (1+(1+b) / 3) (c / 2),zD (1+(1+a) / 3) 24 (c / 2)])]) (s':=st) (stS (gc_lit (n:=18) rfl (by simp) rfl) rfl)).trans ?_
 refine(exs_cons (τ':=[some (sD ns),some (.int k),some (.int (1+a)),some (.int (1+b)),some (.int c),some (.lst (L.map g))]) (s':=st) (stS (gc_add (n:=18) (x:=.lst [zD 24 (1+(1+b) / 3) (c / 2),zD (1+(1+a) / 3) 24 (c / 2)]) rfl (gc_lit (n:=16) (ds:=[zD (1+(1+a) / 3) (1+(1+b) / 3) 12,zD (1+a) (1+b) c]) rfl (by simp) rfl) rfl rfl (by simp) rfl) rfl)).trans ?_
 generalize L.map g=G at hi
 refine ret_ok (evX (n:=19) (x:=.lst G) (y:=.int y) rfl ?_ (hi st))
 have e:=gc_call (c:=callD fns m) (n:=15) (τ:=[some (sD ns),some (.int k),some (.int (1+a)),some (.int (1+b)),some (.int c),some (.lst G)]) (st:=st) (f:=9) (es:=[(.var 0),(.var 1),(.lit (.int 3)),(.lit (.int 12))]) (ds:=[sD ns,.int k,.int 3,.int 12]) rfl (ex st) rfl
 have e':(runK (callD fns m) 18).ev _ _ _=_:=e
 have e3:(rn fns m 18).ev [some (sD ns),some (.int k),some (.int (1+a)),some (.int (1+b)),some (.int c),some (.lst G)] st (.lit (.int 3))=some (.int 3,st):=rfl
 rw[ev_k]
 simp only[stepEv,evs,e',e3,Option.bind_some,bfun,bMin,hy]
end
theorem big_f{i:Int}(h0:0≤i)(h1:i<1000):big i=false:=by unfold big; simp; omega
theorem xDig:PySem.Str.ofString "dig" = mk [100,105,103]:=by decide +kernel
theorem gc_tcut{c:CF}{n:Nat}{τ:Sl}{st:Store}{a:E}{lo hi:Option E}{xs:List D}{l h:Option Int}(ha:(runK c n).ev τ st a=some (.tup xs,st))(hlo:part (runK c n) τ st lo=some (l,st))(hhi:part (runK c n) τ st hi=some (h,st))(hd:noLocs (cut xs l h)=true):(runK c (n+2)).ev τ st (.gc (.sli a lo hi))=some (.tup (cut xs l h),st):=by
 refine gc_ev ?_ (by rw[noLoc_tup]; exact hd)
 show((runK c n).ev τ st a).bind _=_
 rw[ha]
 simp only[Option.bind_some,hlo,hhi,sliD]
section
variable {ns:List Int}(hn:ns.length≤63){m:Nat}
include hn
theorem steps_ok(hm:2≤m)(k j e:Int)(hj:0≤j)(hj2:j<900)(he:0≤e)(he2:e≤12):∃ ss:List Int,ss.length≤20∧∀ st,callD fns m 13 [sD ns,.int k,.int j,.int e] st=some (.tup (ss.map D.int),st):=by
 obtain⟨m,rfl⟩:∃ q,m=q+1:=⟨m - 1,by omega⟩
 let F:Nat→Int:=fun i=>([0,1,2,3,4,0,0]:List Int).getD (drawV ns k (j+(0+(i:Int))) 7).toNat 0
 refine⟨(List.range e.toNat).map F,by simp; omega,fun st=>call_of 20 (F:=f_law_steps) rfl rfl rfl ?_⟩
 show exs (stepEx (rn fns m 20)) b_law_steps [some (sD ns),some (.int k),some (.int j),some (.int e)] st=_
 unfold b_law_steps
 have key:=gc_comp (c:=callD fns m) (n:=17) (τ:=[some (sD ns),some (.int k),some (.int j),some (.int e)]) (st:=st) (it:=.rng1 (.var 3)) (elt:=.idx (.gc (.lst [(.lit (.int 0)),(.lit (.int 1)),(.lit (.int 2)),(.lit (.int 3)),(.lit (.int 4)),(.lit (.int 0)),(.lit (.int 0))])) (.gc (.call 9 [(.var 1),(.var 2),(.bin .Add (.var 3) (.var 0)),(.lit (.int 7))]))) (sr:=[none,some 0,some 1,some 2]) (s:=.rng 0 e.toNat) (rest:=[some (sD ns),some (.int k),some (.int j)]) (List.range e.toNat) (fun(i:Nat)=>.int ((0:Int)+i)) (fun i=>.int (F i)) (by
  have v:(runK (callD fns m) 17).ev [some (sD ns),some (.int k),some (.int j),some (.int e)] st (.var 3)=some (.int e,st):=rfl
  simp only[src,v,Option.bind_some,big_f he (by omega),Bool.false_eq_true,if_false]) (fun i=>at_rng 0 _ i) (by simp[Src.size]) rfl (by simp; omega) (fun _ _=>rfl) (fun i hi=>by
  have hi':=List.mem_range.mp hi
  exact pk (n:=14) [0,1,2,3,4,0,0] rfl (gc_call (n:=13) (ds:=[sD ns,.int k,.int (j+(0+(i:Int))),.int 7]) rfl (drw hDraw (by omega) hn st k _ 7 (by omega) (by omega) (by omega)) rfl) (drawV_lo _ _ _ (by omega)) (drawV_hi _ _ _ (by omega)) (by simp))
 have key':(runK (callD fns m) 19).ev _ _ _=_:=key
 refine ret_ok ?_
 rw[ev_k]
 simp only[stepEv,evs,key',Option.bind_some,bfun,bTuple,seqAt,Option.map_some,List.map_map]
 rfl
theorem dig_ok(hm:3≤m)(k w t d:Int)(w0:1≤w)(t0:1≤t)(d0:0≤d):∃ f:Fact,f.ok∧∀ st,callD fns m 20 [sD ns,.int k,zD w t d] st=some (fD f,st):=by
 obtain⟨m,rfl⟩:∃ q,m=q+1:=⟨m - 1,by omega⟩
 obtain⟨a1,a2,a3,a4,ea⟩:=rect_ok hn (m:=m) (by omega) k 1 w t (by decide) (by decide) (by omega) (by omega)
 obtain⟨b1,b2,b3,b4,eb⟩:=rect_ok hn (m:=m) (by omega) k 5 w t (by decide) (by decide) (by omega) (by omega)
 obtain⟨c,_,_,ec⟩:=dex hn (N:=m) (by omega) k 9 (d+1) (by omega) (by omega) (by omega)
 obtain⟨g,eg⟩:=who_ok hn (m:=m) (by omega) k 12 (by decide) (by decide)
 obtain⟨v,_,_,ev⟩:=dd hn (m:=m) (by omega) k 10 11 (by decide) (by decide) (by decide) (by decide) (10 ^ 6) [9,300,10 ^ 6] (by decide) 3 rfl (by simp) (by simp)
 refine⟨.word [100,105,103] [g,a1,a2,b3,b4,c,1+v],by simp[Fact.ok,wordsN],fun st=>call_of 20 (F:=f_law_dig) rfl rfl rfl ?_⟩
 show exs (stepEx (rn fns m 20)) b_law_dig [some (sD ns),some (.int k),some (zD w t d),none,none,none] st=_
 unfold b_law_dig
 rw[xDig]
 refine(exs_cons (τ':=[some (sD ns),some (.int k),some (zD w t d),some (.tup [.int a1,.int a2]),none,none]) (s':=st) (stS (gc_tcut (n:=18) (xs:=[.int a1,.int a2,.int a3,.int a4]) (l:=none) (h:=some 2) (gc_call (n:=15) (ds:=[sD ns,.int k,.int 1,.int w,.int t]) rfl (ea st) rfl) rfl rfl rfl) rfl)).trans ?_
 refine(exs_cons (τ':=[some (sD ns),some (.int k),some (zD w t d),some (.tup [.int a1,.int a2]),some (.tup [.int b3,.int b4,.int c]),none]) (s':=st) (stS (evB (n:=19) (gc_tcut (n:=17) (xs:=[.int b1,.int b2,.int b3,.int b4]) (l:=some 2) (h:=none) (gc_call (n:=14) (ds:=[sD ns,.int k,.int 5,.int w,.int t]) rfl (eb st) rfl) rfl rfl rfl) (ev_tup (n:=18) (evs2 (gc_call (n:=15) (ds:=[sD ns,.int k,.int 9,.int (d+1)]) rfl (ec st) rfl) rfl) (by simp)) rfl) rfl)).trans ?_
 refine(exs_cons (τ':=[some (sD ns),some (.int k),some (zD w t d),some (.tup [.int a1,.int a2]),some (.tup [.int b3,.int b4,.int c]),some (.int (1+v))]) (s':=st) (stS (ev _ st _ _ _ 8 rfl rfl (fun _=>rfl) (fun _=>rfl) (fun _=>rfl)) rfl)).trans ?_
 exact ret_ok (evB (n:=19) (evB (n:=18) (evB (n:=17) (ev_tup (n:=16) (evs2 rfl (evs2 (gc_call (n:=13) (ds:=[sD ns,.int k,.int 12]) rfl (eg st) rfl) rfl)) (by simp)) rfl rfl) rfl rfl) rfl rfl)
end
noncomputable abbrev oT(ns:List Int)(k j w t e c x y:Int)(l:Nat)(a b:Option D):Sl:=[some (sD ns),some (.int k),some (.int j),some (zD w t e),some (.int c),some (.int x),some (.int y),some (.loc l),a,b]
noncomputable def outsB:List S:=[.set (.var 9) (.bin .Mod (.bin .Add (.var 5) (.bin .Mult (.var 8) (.var 6))) (.var 4)),.ite (.cmp .NotIn (.tup [(.bin .Mod (.var 9) (.idx (.var 3) (.lit (.int 0)))),(.bin .FloorDiv (.var 9) (.idx (.var 3) (.lit (.int 0))))]) (.var 7)) [.expr (.meth (.var 7) .append [(.tup [(.bin .Mod (.var 9) (.idx (.var 3) (.lit (.int 0)))),(.bin .FloorDiv (.var 9) (.idx (.var 3) (.lit (.int 0))))])])] []]
theorem app_end{c:CF}{n i:Nat}{τ:Sl}{st:Store}{ds:List D}{d:D}{e:E}(hv:τ[i]?=some (some (.loc st.length)))(he:(runK c (n+1)).ev τ (st++[.lst true ds]) e=some (d,st++[.lst true ds]))(hl:ds.length<1000):
  (runK c (n+2)).ev τ (st++[.lst true ds]) (.meth (.var i) .append [e])=some (.non,st++[.lst true (ds++[d])]):=by
 have v:(runK c (n+1)).ev τ (st++[.lst true ds]) (.var i)=some (.loc st.length,st++[.lst true ds]):=evV hv
 have mt:mty (st++[.lst true ds]) .append (.loc st.length)=true:=by
  simp only[mty,seq_end]
  rfl
 have wl:wlistAt (st++[.lst true ds]) st.length=some ds:=wlistAt_new st ds
 rw[ev_k]
 simp only[stepEv,v,Option.bind_some,mt,if_true,evs,he,mfun,mAppend,wl]
 rw[if_pos (by unfold lim; omega),set_new]
theorem outs_turn(m:Nat)(st:Store)(ns:List Int)(k j w t e c x y:Int)(hw0:1≤w)(hw1:w≤24)(c0:1≤c)(i:Nat)(hi:i<20)(cs:List (Int×Int))(b:Option D)(hlen:cs.length≤i):
  ∃ (cs':List (Int×Int)) (b':Option D),cs'.length≤i+1∧cs'≠[]∧(rn fns m 30).ex (oT ns k j w t e c x y st.length (some (.int (0+(i:Int)))) b) (st++[.lst true (cs.map cD)]) outsB=some (.nx (oT ns k j w t e c x y st.length (some (.int (0+(i:Int)))) b'),st++[.lst true (cs'.map cD)]):=by
 generalize hp:((x+(0+(i:Int))*y) % c % w,(x+(0+(i:Int))*y) % c / w)=p
 generalize hB:st++[.lst true (cs.map cD)]=B
 generalize hU:oT ns k j w t e c x y st.length (some (.int (0+(i:Int)))) (some (.int ((x+(0+(i:Int))*y) % c)))=U
 have first:stepEx (rn fns m 29) (oT ns k j w t e c x y st.length (some (.int (0+(i:Int)))) b) B (.set (.var 9) (.bin .Mod (.bin .Add (.var 5) (.bin .Mult (.var 8) (.var 6))) (.var 4)))=some (.nx U,B):=by
  rw[← hU]
  exact stS (evB (n:=28) (b:=.int c) (evB (n:=27) (a:=.int x) rfl (evB (n:=26) (a:=.int (0+(i:Int))) (b:=.int y) rfl rfl (by simp only[binop]; rw[if_pos (mulOk_l (by omega) (by omega))])) rfl) rfl (bMo B _ (by omega))) rfl
 have tp:∀ n:Nat,(rn fns m (n+8)).ev U B (.tup [(.bin .Mod (.var 9) (.idx (.var 3) (.lit (.int 0)))),(.bin .FloorDiv (.var 9) (.idx (.var 3) (.lit (.int 0))))])=some (cD p,B):=fun n=>by
  rw[← hU,← hp]
  exact ev_tup (n:=n+7) (evs2 (evB (n:=n+6) (b:=.int w) rfl rfl (bMo B _ (by omega))) (evs2 (evB (n:=n+6) (b:=.int w) rfl rfl (bDi B _ (by omega) (by omega))) rfl)) (by simp)
 have v7:∀ n:Nat,(rn fns m (n+1)).ev U B (.var 7)=some (.loc st.length,B):=fun n=>by rw[← hU]; rfl
 have hin:inD B (cD p) (.loc st.length)=some ((cs.map cD).any fun z=>eqT z (cD p)):=by
  have hs:seqAt B (.loc st.length)=some (cs.map cD):=by rw[← hB]; exact seq_end _ _ _
  simp only[inD,hs,Option.bind_some]
  rw[flats_map cD 9 (fun _=>rfl),show flat 9 (cD p)=true from rfl]
  rfl
 have tt:=tCmp (c:=callD fns m) (n:=28) (op:=.NotIn) (tp 20) (v7 27) (k:=!((cs.map cD).any fun z=>eqT z (cD p))) (by simp only[cmpD,hin,Option.map_some])
 unfold outsB
 rw[ex_k]
 cases hb:((cs.map cD).any fun z=>eqT z (cD p)) with
 |true=>
  rw[hb]at tt
  refine⟨cs,some (.int ((x+(0+(i:Int))*y) % c)),by omega,fun hc=>?_,(exs_cons first).trans ((exs_cons (τ':=U) (s':=B) ((stepEx_ite_f (st':=B) tt).trans rfl)).trans ?_)⟩
  ·rw[hc]at hb
   cases hb
  ·rw[hB,hU]
   rfl
 |false=>
  rw[hb]at tt
  refine⟨cs++[p],some (.int ((x+(0+(i:Int))*y) % c)),by rw[List.length_append,List.length_singleton]; omega,by simp,(exs_cons first).trans ?_⟩
  have ap:(rn fns m 28).ev U B (.meth (.var 7) .append [(.tup [(.bin .Mod (.var 9) (.idx (.var 3) (.lit (.int 0)))),(.bin .FloorDiv (.var 9) (.idx (.var 3) (.lit (.int 0))))])])=some (.non,st++[.lst true ((cs++[p]).map cD)]):=by
   have t2:=tp 19
   rw[← hB]at t2 ⊢
   rw[List.map_append]
   exact app_end (n:=26) (by rw[← hU]; rfl) t2 (by rw[List.length_map]; omega)
  rw[hU]
  refine(exs_cons (τ':=U) (s':=st++[.lst true ((cs++[p]).map cD)]) ((stepEx_ite_t (st':=B) tt).trans ?_)).trans rfl
  refine(exs_cons (τ':=U) (s':=st++[.lst true ((cs++[p]).map cD)]) ?_).trans rfl
  simp only[stepEx,ap,Option.map_some]
section
variable {ns:List Int}(hn:ns.length≤63){m:Nat}
include hn
theorem outs_ok(hm:2≤m)(k j w t e:Int)(hj:0≤j)(hj2:j<900)(hw0:1≤w)(hw1:w≤24)(ht0:1≤t)(st:Store):
  ∃ (cs:List (Int×Int)) (r:Store),cs.length≤20∧cs≠[]∧callD fns m 14 [sD ns,.int k,.int j,zD w t e] st=some (.tup (cs.map cD),st++r):=by
 obtain⟨m,rfl⟩:∃ q,m=q+1:=⟨m - 1,by omega⟩
 have c0:1≤w*t:=by
  have:1*1≤w*t:=Int.mul_le_mul hw0 ht0 (by omega) (by omega)
  omega
 have pM:binop st .Mult (.int w) (.int t)=some (.int (w*t),st):=by
  simp only[binop]
  rw[if_pos (mulOk_l (by omega) (by omega))]
 generalize w*t=c at c0 pM
 obtain⟨x,x0,x1,ex⟩:=dex hn (N:=m) (by omega) k j c (by omega) (by omega) (by omega)
 obtain⟨y,y0,y1,ey⟩:=dex hn (N:=m) (by omega) k (j+1) c (by omega) (by omega) (by omega)
 obtain⟨v,v0,v1,ev⟩:=dd hn (m:=m) (by omega) k (j+3) (j+2) (by omega) (by omega) (by omega) (by omega) 16 [16,4,4,4] (by decide) 4 rfl (by simp) (by simp)
 have ev':=ev (oT ns k j w t e c x (1+y) st.length none none) (st++[.lst true []]) (.bin .Add (.var 2) (.lit (.int 3))) (.bin .Add (.var 2) (.lit (.int 2))) [(.lit (.int 16)),(.lit (.int 4)),(.lit (.int 4)),(.lit (.int 4))] 18 rfl rfl (fun _=>rfl) (fun _=>rfl) (fun _=>rfl)
 obtain⟨τ',S',el,cs,a,b,h1,h2,hlen,hne⟩:=loop_rng (lo:=0) (n:=(1+v).toNat) (τ:=oT ns k j w t e c x (1+y) st.length none none) (st:=st++[.lst true []])
  (f:=fun τ st d=>(setT (.var 8) d τ).bind fun τ'=>(rn fns m 30).ex τ' st outsB)
  (fun i τ S=>∃ (cs:List (Int×Int)) (a b:Option D),τ=oT ns k j w t e c x (1+y) st.length a b∧S=st++[.lst true (cs.map cD)]∧cs.length≤i∧(0<i→cs≠[])) ⟨[],none,none,rfl,rfl,by simp,fun h=>absurd h (by omega)⟩ (by
   rintro i τ S hi ⟨cs,a,b,rfl,rfl,hlen,_⟩
   obtain⟨cs',b',o2,o3,o4⟩:=outs_turn m st ns k j w t e c x (1+y) hw0 hw1 c0 i (by omega) cs b hlen
   have s8:setT (.var 8) (.int (0+(i:Int))) (oT ns k j w t e c x (1+y) st.length a b)=some (oT ns k j w t e c x (1+y) st.length (some (.int (0+(i:Int)))) b):=rfl
   refine⟨oT ns k j w t e c x (1+y) st.length (some (.int (0+(i:Int)))) b',st++[.lst true (cs'.map cD)],?_,cs',_,b',rfl,rfl,o2,fun _=>o3⟩
   rw[s8,Option.bind_some]
   exact o4)
 subst h1 h2
 refine⟨cs,[.lst true (cs.map cD)],by omega,hne (by omega),call_of 30 (F:=f_law_outs) rfl rfl rfl ?_⟩
 show exs (stepEx (rn fns m 30)) b_law_outs [some (sD ns),some (.int k),some (.int j),some (zD w t e),none,none,none,none,none,none] st=_
 unfold b_law_outs
 refine(exs_cons (τ':=[some (sD ns),some (.int k),some (.int j),some (zD w t e),some (.int c),none,none,none,none,none]) (s':=st) (stS (evB (n:=29) (a:=.int w) (b:=.int t) rfl rfl pM) rfl)).trans ?_
 refine(exs_cons (τ':=[some (sD ns),some (.int k),some (.int j),some (zD w t e),some (.int c),some (.int x),none,none,none,none]) (s':=st) (stS (gc_call (n:=27) (ds:=[sD ns,.int k,.int j,.int c]) rfl (ex st) rfl) rfl)).trans ?_
 refine(exs_cons (τ':=[some (sD ns),some (.int k),some (.int j),some (zD w t e),some (.int c),some (.int x),some (.int (1+y)),none,none,none]) (s':=st) (stS (evB (n:=29) (a:=.int 1) rfl (gc_call (n:=26) (ds:=[sD ns,.int k,.int (j+1),.int c]) rfl (ey st) rfl) (pA _ _ _)) rfl)).trans ?_
 refine(exs_cons (τ':=oT ns k j w t e c x (1+y) st.length none none) (s':=st++[.lst true []]) rfl).trans ?_
 refine(exs_cons (τ':=oT ns k j w t e c x (1+y) st.length a b) (s':=st++[.lst true (cs.map cD)]) ?_).trans ?_
 ·have ev2:(runK (callD fns m) 30).ev _ _ _=_:=ev'
  simp only[stepEx,src,ev2,Option.bind_some,big_f (show 0≤1+v by omega) (by omega),Bool.false_eq_true,if_false,Src.size]
  exact el
 refine ret_ok ?_
 have v7:(rn fns m 29).ev (oT ns k j w t e c x (1+y) st.length a b) (st++[.lst true (cs.map cD)]) (.var 7)=some (.loc st.length,st++[.lst true (cs.map cD)]):=rfl
 rw[ev_k]
 simp only[stepEv,evs,v7,Option.bind_some,bfun,bTuple,seq_end,Option.map_some]
theorem vein_ok(hm:3≤m)(k w t d:Int)(w0:1≤w)(w1:w≤24)(t0:1≤t)(d0:0≤d)(d1:d≤12)(st:Store):∃ f:Fact,f.ok∧callD fns m 17 [sD ns,.int k,zD w t d] st=some (fD f,st):=by
 obtain⟨m,rfl⟩:∃ q,m=q+1:=⟨m - 1,by omega⟩
 obtain⟨ss,s2,es⟩:=steps_ok hn (m:=m) (by omega) k 8 d (by omega) (by omega) d0 d1
 obtain⟨cs,r,c2,c3,ec⟩:=outs_ok hn (m:=m) (by omega) k 1 w t d (by omega) (by omega) w0 w1 t0 st
 refine⟨.vein ss cs,⟨s2,c2,c3⟩,call_of 20 (F:=f_law_vein) rfl rfl rfl ?_⟩
 show exs (stepEx (rn fns m 20)) b_law_vein [some (sD ns),some (.int k),some (zD w t d)] st=_
 unfold b_law_vein
 rw[xVein]
 refine ret_ok (ev_tup (n:=19) (evs2 rfl (evs2 (gc_call (n:=16) (ds:=[sD ns,.int k,.int 8,.int d]) rfl (es st) (by rw[noLoc_tup]; exact iN _)) (evs2 ?_ rfl))) (by simp))
 show((callD fns m 14 [sD ns,.int k,.int 1,zD w t d] st).map (gcD st))=_
 rw[ec,Option.map_some,gc_app (by rw[noLoc_tup]; exact cD_nl _)]
end
theorem xWork:PySem.Str.ofString "work" = mk [119,111,114,107]:=by decide +kernel
theorem xSell:PySem.Str.ofString "sell" = mk [115,101,108,108]:=by decide +kernel
theorem xPart:PySem.Str.ofString "part" = mk [112,97,114,116]:=by decide +kernel
theorem xGive:PySem.Str.ofString "give" = mk [103,105,118,101]:=by decide +kernel
theorem xJoin:PySem.Str.ofString "join" = mk [106,111,105,110]:=by decide +kernel
theorem xStake:PySem.Str.ofString "stake" = mk [115,116,97,107,101]:=by decide +kernel
noncomputable def qD(q:List Nat×List Int):D:=.tup (tD q.1::q.2.map D.int)
noncomputable def plD(v:Int):D:=.lst [.tup [.int 7,.tup [tD wVein]],.tup [.int v,.tup [tD [115,116,97,107,101]]]]
theorem lt_i{c:CF}{n:Nat}{τ:Sl}{st:Store}{a:E}{x y:Int}(ha:(runK c (n+1)).ev τ st a=some (.int x,st)):(runK c (n+2)).tst τ st (.cmp .Lt a (.lit (.int y)))=some (decide (x<y),st):=tCmp ha rfl rfl
section
variable {ns:List Int}(hn:ns.length≤63){m:Nat}
include hn
theorem claim_ok(hm:3≤m)(k way w t d:Int)(y0:0≤way)(y1:way<8)(w0:1≤w)(t0:1≤t)(xs:List Int):∃ f:Fact,f.ok∧∀ st,callD fns m 18 [sD ns,.int k,.int way,zD w t d,.lst (xs.map D.int)] st=some (fD f,st):=by
 obtain⟨m,rfl⟩:∃ q,m=q+1:=⟨m - 1,by omega⟩
 obtain⟨p,ep⟩:=pick_ok hn (m:=m) (by omega) k 1 (by decide) (by decide) xs
 obtain⟨g,eg⟩:=who_ok hn (m:=m) (by omega) k 3 (by decide) (by decide)
 obtain⟨s,s0,s1,es⟩:=dex hn (N:=m) (by omega) k 5 2 (by decide) (by decide) (by decide)
 obtain⟨z,z0,ez⟩:∃ z,1≤z∧∀ S,idxD S (zD w t d) (.int s)=some (.int z):=by
  rcases (show s=0∨s=1 by omega) with rfl|rfl
  ·exact⟨w,w0,fun S=>rfl⟩
  ·exact⟨t,t0,fun S=>rfl⟩
 obtain⟨u,hu,u0⟩:∃ u:Int,(if z<23 then z else 23)=u∧0<u:=⟨_,rfl,by split<;>omega⟩
 obtain⟨l,l0,l1,el⟩:=dex hn (N:=m) (by omega) k 6 u (by omega) (by omega) (by omega)
 generalize D.lst (xs.map D.int)=N at ep
 have pre:∀ st,exs (stepEx (rn fns m 20)) b_law_claim_fact [some (sD ns),some (.int k),some (.int way),some (zD w t d),some N,none,none,none,none] st=exs (stepEx (rn fns m 20)) (b_law_claim_fact.drop 4) [some (sD ns),some (.int k),some (.int way),some (zD w t d),some N,some (.int p),some (.int g),some (.int s),some (.int (1+l))] st:=fun st=>by
  unfold b_law_claim_fact
  refine(exs_cons (τ':=[some (sD ns),some (.int k),some (.int way),some (zD w t d),some N,some (.int p),none,none,none]) (s':=st) (stS (gc_call (n:=17) (ds:=[sD ns,.int k,.int 1,N]) rfl (ep st) rfl) rfl)).trans ?_
  refine(exs_cons (τ':=[some (sD ns),some (.int k),some (.int way),some (zD w t d),some N,some (.int p),some (.int g),none,none]) (s':=st) (stS (gc_call (n:=17) (ds:=[sD ns,.int k,.int 3]) rfl (eg st) rfl) rfl)).trans ?_
  refine(exs_cons (τ':=[some (sD ns),some (.int k),some (.int way),some (zD w t d),some N,some (.int p),some (.int g),some (.int s),none]) (s':=st) (stS (gc_call (n:=17) (ds:=[sD ns,.int k,.int 5,.int 2]) rfl (es st) rfl) rfl)).trans ?_
  refine exs_cons (stS (evB (n:=19) (a:=.int 1) (b:=.int l) rfl (gc_call (n:=16) (ds:=[sD ns,.int k,.int 6,.int u]) (evs2 rfl (evs2 rfl (evs2 rfl (evs2 ?_ rfl)))) (el st) rfl) (pA _ _ _)) rfl)
  have i:=evX (c:=callD fns m) (n:=15) (τ:=[some (sD ns),some (.int k),some (.int way),some (zD w t d),some N,some (.int p),some (.int g),some (.int s),none]) (st:=st) (a:=.var 3) (b:=.var 7) (x:=zD w t d) (y:=.int s) rfl rfl (ez st)
  have i':(runK (callD fns m) 16).ev _ _ _=_:=i
  have j:(rn fns m 16).ev [some (sD ns),some (.int k),some (.int way),some (zD w t d),some N,some (.int p),some (.int g),some (.int s),none] st (.lit (.int 23))=some (.int 23,st):=rfl
  rw[ev_k]
  simp only[stepEv,evs,i',j,Option.bind_some,bfun,bMin,hu]
 generalize hT:([some (sD ns),some (.int k),some (.int way),some (zD w t d),some N,some (.int p),some (.int g),some (.int s),some (.int (1+l))]:Sl)=T at pre
 have tt:=fun st=>lt_i (c:=callD fns m) (n:=18) (τ:=T) (st:=st) (a:=.var 2) (x:=way) (y:=3) (by rw[← hT]; rfl)
 by_cases h:way<3
 ·refine⟨.word [119,111,114,107] [p],by simp[Fact.ok,wordsN],fun st=>call_of 20 (F:=f_law_claim_fact) rfl rfl rfl ((pre st).trans ?_)⟩
  have t:=tt st
  rw[decide_eq_true h]at t
  unfold b_law_claim_fact
  rw[xWork]
  refine exs_ite_t (n:=19) t ?_
  rw[← hT]
  exact exs_ret rfl
 ·let L:List (List Nat×List Int):=[([115,101,108,108],[p,g]),([112,97,114,116],[p,s,1+l,g]),([103,105,118,101],[p])]
  have b0:0≤way / 2 - 1:=by omega
  have b1:way / 2 - 1<(L.length:Nat):=by show way / 2 - 1<(3:Int); omega
  have hp:=getD_mem L ([],[]) (way / 2 - 1) b0 b1
  have hi:=ix_lst qD L ([],[]) (way / 2 - 1) b0 b1
  generalize L.getD (way / 2 - 1).toNat ([],[])=q at hp hi
  refine⟨.word q.1 q.2,?_,fun st=>call_of 20 (F:=f_law_claim_fact) rfl rfl rfl ((pre st).trans ?_)⟩
  ·simp only[L,List.mem_cons,List.not_mem_nil,or_false]at hp
   rcases hp with rfl|rfl|rfl<;>simp[Fact.ok,wordsN]
  ·have t:=tt st
   rw[decide_eq_false h]at t
   unfold b_law_claim_fact
   rw[xSell,xPart,xGive]
   refine(exs_ite_f (n:=19) t).trans (ret_ok (evX (n:=19) (x:=.lst (L.map qD)) (y:=.int (way / 2 - 1)) ?_ ?_ (hi st)))
   ·rw[← hT]
    exact gc_lit (n:=17) rfl (by simp[L]) rfl
   ·exact evB (n:=18) (a:=.int (way / 2)) (b:=.int 1) (evB (n:=17) (a:=.int way) (b:=.int 2) (by rw[← hT]; rfl) rfl (bDi st _ (by omega) (by omega))) rfl rfl
end
theorem plan_v{c:CF}{n:Nat}{T:Sl}{st:Store}{v:Int}(h:T[3]?=some (some (plD v))):(runK c (n+20)).ev T st (.gc (.comp (.tup [0,1]) (.var 3) (some (.cmp .Eq (.idx (.var 1) (.lit (.int 0))) (.lit (.str "vein")))) (.var 0) [none,none]))=some (.lst [.int 7],st):=by
 refine gc_evL (n:=n+19) ?_ rfl
 rw[xVein,ev_k]
 have hs:src (runK c (n+18)) T st (.var 3)=some (.lst (plD v),st):=by
  simp only[src,ev_k,stepEv,h,Option.bind_some]
  rfl
 simp only[stepEv,hs,Option.bind_some]
 rfl
theorem plan_n{c:CF}{n:Nat}{T:Sl}{st:Store}{v:Int}(h:T[3]?=some (some (plD v))):(runK c (n+20)).ev T st (.gc (.comp (.tup [0,1]) (.var 3) (some (.cmp .In (.idx (.var 1) (.lit (.int 0))) (.tup [(.lit (.str "stake")),(.lit (.str "part"))]))) (.var 0) [none,none]))=some (.lst [.int v],st):=by
 refine gc_evL (n:=n+19) ?_ rfl
 rw[xStake,xPart,ev_k]
 have hs:src (runK c (n+18)) T st (.var 3)=some (.lst (plD v),st):=by
  simp only[src,ev_k,stepEv,h,Option.bind_some]
  rfl
 simp only[stepEv,hs,Option.bind_some]
 rfl
section
variable {ns:List Int}(hn:ns.length≤63){m:Nat}
include hn
noncomputable abbrev fT(ns:List Int)(k w t d v y:Int)(r:Option D):Sl:=[some (sD ns),some (.int k),some (zD w t d),some (plD v),some (.int y),some (.lst [.int 7]),some (.lst [.int v]),r]
theorem fact_ok(hm:4≤m)(k w t d v:Int)(w0:1≤w)(w1:w≤24)(t0:1≤t)(d0:0≤d)(d1:d≤12)(st:Store):∃ f:Fact,f.ok∧callD fns m 19 [sD ns,.int k,zD w t d,plD v] st=some (fD f,st):=by
 obtain⟨m,rfl⟩:∃ q,m=q+1:=⟨m - 1,by omega⟩
 obtain⟨y,y0,y1,ey⟩:=dex hn (N:=m) (by omega) k 0 20 (by decide) (by decide) (by decide)
 have pre:exs (stepEx (rn fns m 30)) b_law_fact [some (sD ns),some (.int k),some (zD w t d),some (plD v),none,none,none,none] st=exs (stepEx (rn fns m 30)) (b_law_fact.drop 3) (fT ns k w t d v y none) st:=by
  unfold b_law_fact
  refine(exs_cons (τ':=[some (sD ns),some (.int k),some (zD w t d),some (plD v),some (.int y),none,none,none]) (s':=st) (stS (gc_call (n:=27) (ds:=[sD ns,.int k,.int 0,.int 20]) rfl (ey st) rfl) rfl)).trans ?_
  refine(exs_cons (τ':=[some (sD ns),some (.int k),some (zD w t d),some (plD v),some (.int y),some (.lst [.int 7]),none,none]) (s':=st) (stS (plan_v (n:=10) rfl) rfl)).trans ?_
  exact exs_cons (stS (plan_n (n:=10) rfl) rfl)
 have lt:∀ (x:Int) (n:Nat),(rn fns m (n+3)).tst (fT ns k w t d v y none) st (.cmp .Lt (.var 4) (.lit (.int x)))=some (decide (y<x),st):=fun x n=>rfl
 have or5:∀ (x z:Int) (i:Nat),(i=5∨i=6)→(rn fns m 30).tst (fT ns k w t d v y none) st (.or (.cmp .Lt (.var 4) (.lit (.int x))) (.and (.cmp .Lt (.var 4) (.lit (.int z))) (.cmp .Eq (.bcall .len [(.var i)]) (.lit (.int 0)))))=some (decide (y<x),st):=fun x z i hi=>
  (tst_or (n:=29) (lt x 26) fun _=>tAnd (n:=28) (y:=false) (lt z 25) (by rcases hi with rfl|rfl<;>rfl)).trans (by rw[Bool.and_false,Bool.or_false])
 have an:(rn fns m 30).tst (fT ns k w t d v y none) st (.and (.cmp .Lt (.var 4) (.lit (.int 5))) (.cmp .Gt (.idx (.var 2) (.lit (.int 2))) (.lit (.int 0))))=some (decide (y<5)&&decide (d > 0),st):=tAnd (n:=29) (lt 5 26) rfl
 suffices h:∃ f:Fact,f.ok∧exs (stepEx (rn fns m 30)) (b_law_fact.drop 3) (fT ns k w t d v y none) st=some (.rt (fD f),st) by
  obtain⟨f,hf,e⟩:=h
  exact⟨f,hf,call_of 30 (F:=f_law_fact) rfl rfl rfl (pre.trans e)⟩
 unfold b_law_fact
 rw[xJoin,xStake]
 by_cases h1:y<3
 ·obtain⟨f,hf,e⟩:=vein_ok hn (m:=m) (by omega) k w t d w0 w1 t0 d0 d1 st
  exact⟨f,hf,exs_ite_t (n:=29) ((or5 3 8 5 (.inl rfl)).trans (by rw[decide_eq_true h1])) (ret_ok (n:=29) e)⟩
 have o1:=(or5 3 8 5 (.inl rfl)).trans (by rw[decide_eq_false h1])
 cases h2:decide (y<5)&&decide (d > 0) with
 |true=>
  rw[h2]at an
  rw[Bool.and_eq_true,decide_eq_true_iff,decide_eq_true_iff]at h2
  obtain⟨a,_,_,ea⟩:=dex hn (N:=m) (by omega) k 5 d (by omega) (by omega) (by omega)
  obtain⟨p,ep⟩:=pick_ok hn (m:=m) (by omega) k 1 (by decide) (by decide) [7]
  obtain⟨q,eq⟩:=pick_ok hn (m:=m) (by omega) k 3 (by decide) (by decide) [7]
  refine⟨.word [106,111,105,110] [p,q,1+a],by simp[Fact.ok,wordsN],(exs_ite_f (n:=29) o1).trans (exs_ite_t (n:=29) an ?_)⟩
  refine(exs_cons (τ':=fT ns k w t d v y (some (.int (1+a)))) (s':=st) (stS (evB (n:=28) (a:=.int 1) (b:=.int a) rfl (gc_call (n:=25) (ds:=[sD ns,.int k,.int 5,.int d]) rfl (ea st) rfl) (pA _ _ _)) rfl)).trans ?_
  exact ret_ok (ev_tup (n:=28) (evs2 rfl (evs2 (gc_call (n:=25) (ds:=[sD ns,.int k,.int 1,.lst ([7].map D.int)]) rfl (ep st) rfl) (evs2 (gc_call (n:=25) (ds:=[sD ns,.int k,.int 3,.lst ([7].map D.int)]) rfl (eq st) rfl) (evs2 rfl rfl)))) (by simp))
 |false=>
 rw[h2]at an
 by_cases h3:y<12
 ·obtain⟨g,eg⟩:=who_ok hn (m:=m) (by omega) k 1 (by decide) (by decide)
  obtain⟨a1,a2,a3,a4,ea⟩:=rect_ok hn (m:=m) (by omega) k 3 w t (by decide) (by decide) (by omega) (by omega)
  refine⟨.word [115,116,97,107,101] [g,a1,a2,a3,a4],by simp[Fact.ok,wordsN],(exs_ite_f (n:=29) o1).trans ((exs_ite_f (n:=29) an).trans (exs_ite_t (n:=29) ((or5 12 17 6 (.inr rfl)).trans (by rw[decide_eq_true h3])) (ret_ok (n:=29) ?_)))⟩
  exact evB (n:=28) (ev_tup (n:=27) (evs2 rfl (evs2 (gc_call (n:=24) (ds:=[sD ns,.int k,.int 1]) rfl (eg st) rfl) rfl)) (by simp)) (gc_call (n:=25) (ds:=[sD ns,.int k,.int 3,.int w,.int t]) rfl (ea st) rfl) rfl
 obtain⟨f,hf,e⟩:=claim_ok hn (m:=m) (by omega) k (y - 12) w t d (by omega) (by omega) w0 t0 [v]
 exact⟨f,hf,(exs_ite_f (n:=29) o1).trans ((exs_ite_f (n:=29) an).trans ((exs_ite_f (n:=29) ((or5 12 17 6 (.inr rfl)).trans (by rw[decide_eq_false h3]))).trans (ret_ok (e st))))⟩
theorem some_ok(hm:5≤m)(k w t d:Int)(w0:1≤w)(w1:w≤24)(t0:1≤t)(t1:t≤24)(d0:0≤d)(d1:d≤12)(st:Store):∃ f:Fact,f.ok∧callD fns m 26 [sD ns,.int k,zD w t d] st=some (fD f,st):=by
 obtain⟨m,rfl⟩:∃ q,m=q+1:=⟨m - 1,by omega⟩
 obtain⟨y,y0,y1,ey⟩:=dex hn (N:=m) (by omega) k 24 5 (by decide) (by decide) (by decide)
 obtain⟨v,v0,v1,ev⟩:=dex hn (N:=m) (by omega) k 21 400 (by decide) (by decide) (by decide)
 suffices h:∃ f:Fact,f.ok∧exs (stepEx (rn fns m 20)) (b_law_some_fact.drop 1) [some (sD ns),some (.int k),some (zD w t d),some (.int y)] st=some (.rt (fD f),st) by
  obtain⟨f,hf,e⟩:=h
  refine⟨f,hf,call_of 20 (F:=f_law_some_fact) rfl rfl rfl ?_⟩
  exact(exs_cons (τ':=[some (sD ns),some (.int k),some (zD w t d),some (.int y)]) (s':=st) (stS (gc_call (n:=17) (ds:=[sD ns,.int k,.int 24,.int 5]) rfl (ey st) rfl) rfl)).trans e
 have tt:∀ x:Int,(rn fns m 20).tst [some (sD ns),some (.int k),some (zD w t d),some (.int y)] st (.cmp .Eq (.var 3) (.lit (.int x)))=some (y==x,st):=fun x=>tst_i (n:=18) rfl
 unfold b_law_some_fact
 rw[xVein,xStake]
 by_cases h0:y=0
 ·obtain⟨f,hf,e⟩:=dig_ok hn (m:=m) (by omega) k w t d w0 t0 d0
  exact⟨f,hf,exs_ite_t (n:=19) ((tt 0).trans (by rw[h0,beq_self_eq_true])) (ret_ok (n:=19) (e st))⟩
 have o1:=(tt 0).trans (by rw[beq_eq_false_iff_ne.mpr h0])
 by_cases h1:y=1
 ·obtain⟨f,hf,e⟩:=pay_ok hn (m:=m) (by omega) k
  exact⟨f,hf,(exs_ite_f (n:=19) o1).trans (exs_ite_t (n:=19) ((tt 1).trans (by rw[h1,beq_self_eq_true])) (ret_ok (n:=19) (e st)))⟩
 obtain⟨f,hf,e⟩:=fact_ok hn (m:=m) (by omega) k w t d (1+v) w0 w1 t0 d0 d1 st
 refine⟨f,hf,(exs_ite_f (n:=19) o1).trans ((exs_ite_f (n:=19) ((tt 1).trans (by rw[beq_eq_false_iff_ne.mpr h1]))).trans (ret_ok ?_))⟩
 have pl:=gc_lit (c:=callD fns m) (n:=17) (τ:=[some (sD ns),some (.int k),some (zD w t d),some (.int y)]) (st:=st) (es:=[(.tup [(.lit (.int 7)),(.tup [(.lit (.str (mk wVein)))])]),(.tup [(.bin .Add (.lit (.int 1)) (.gc (.call 9 [(.var 0),(.var 1),(.lit (.int 21)),(.lit (.int 400))]))),(.tup [(.lit (.str (mk [115,116,97,107,101])))])])]) (ds:=[.tup [.int 7,.tup [tD wVein]],.tup [.int (1+v),.tup [tD [115,116,97,107,101]]]]) (evs2 rfl (evs2 (ev_tup (n:=16) (evs2 (evB (n:=15) (a:=.int 1) (b:=.int v) rfl (gc_call (n:=12) (ds:=[sD ns,.int k,.int 21,.int 400]) rfl (ev st) rfl) (pA _ _ _)) (evs2 rfl rfl)) (by simp)) rfl)) (by simp) rfl
 show(evs ((rn fns m 19).ev _) _ st).bind _=_
 rw[evs2 (f:=(rn fns m 19).ev _) rfl (evs2 rfl (evs2 rfl (evs2 pl rfl)))]
 exact e
end
theorem loopC_all{s:Src}{F:Sl→Store→D→Option (Option D×Sl×Store)}{st:Store}(ds es:List D)(Sh:Sl→Prop)(hat:∀ i,s.at st i=some ds[i]?)(hlen:es.length=ds.length)(hlim:ds.length<lim)
  (hF:∀ (i:Nat) (d e:D) (τ:Sl),ds[i]?=some d→es[i]?=some e→Sh τ→∃ τ',F τ st d=some (some e,τ',st)∧Sh τ') :
  ∀ (k i:Nat) (τ:Sl),ds.length - i=k→i≤ds.length→Sh τ→loopC s F (k+1) i (es.take i) τ st=some (es,st)
 |0,i,τ,hk,hi,_=>by
  have e:i=ds.length:=by omega
  subst e
  unfold loopC
  rw[hat,List.getElem?_eq_none (Nat.le_refl _)]
  simp only[Option.bind_some]
  rw[if_neg (by rw[List.length_take]; omega),List.take_of_length_le (by omega)]
 |k+1,i,τ,hk,hi,hS=>by
  have hlt:i<ds.length:=by omega
  have e1:ds[i]?=some ds[i]:=List.getElem?_eq_getElem hlt
  have e2:es[i]?=some (es[i]'(by omega)):=List.getElem?_eq_getElem _
  obtain⟨τ',q1,q2⟩:=hF i _ _ τ e1 e2 hS
  unfold loopC
  rw[hat,e1]
  simp only[Option.bind_some]
  rw[if_neg (by rw[List.length_take]; omega),q1]
  simp only[Option.bind_some]
  have:=loopC_all ds es Sh hat hlen hlim hF k (i+1) τ' (by omega) hlt q2
  rw[List.take_succ,e2]at this
  exact this
theorem gc_compZ{α:Type}{c:CF}{n:Nat}{τ:Sl}{st:Store}{elt:E}{sr:List (Option Nat)}{rest:Sl}{ia ib:Nat}(xs:List α)(f g h:α→D)(hA:τ[ia]?=some (some (.tup (xs.map f))))(hB:τ[ib]?=some (some (.tup (xs.map g))))
  (hin:inner sr τ=none::none::rest) (hlim:xs.length<1000000) (hg:∀ x∈xs,noLoc (h x)=true) (he:∀ x∈xs,(runK c (n+1)).ev (some (f x)::some (g x)::rest) st elt=some (h x,st)) :
  (runK c (n+3)).ev τ st (.gc (.comp (.tup [0,1]) (.zip (.var ia) (.var ib)) none elt sr))=some (.lst (xs.map h),st):=by
 have a:(runK c (n+1)).ev τ st (.var ia)=some (.tup (xs.map f),st):=evV hA
 have b:(runK c (n+1)).ev τ st (.var ib)=some (.tup (xs.map g),st):=evV hB
 have s1:src (runK c (n+1)) τ st (.zip (.var ia) (.var ib))=some (.zip (.tup (xs.map f)) (.tup (xs.map g)),st):=by
  simp only[src,a,b,Option.bind_some,rowAt,Option.map_some]
 have at_:∀ i,(Src.zip (.tup (xs.map f)) (.tup (xs.map g))).at st i=some ((xs.map fun x=>D.tup [f x,g x])[i]?):=fun i=>by
  simp only[Src.at,rowAt,Option.bind_some,Option.map_some,pairAt,List.getElem?_map]
  cases xs[i]?<;>rfl
 have sz:(Src.zip (.tup (xs.map f)) (.tup (xs.map g))).size st=(xs.map fun x=>D.tup [f x,g x]).length:=by
  simp[Src.size,rowAt]
 have l:=loopC_all (s:=Src.zip (.tup (xs.map f)) (.tup (xs.map g))) (F:=turnC (runK c (n+1)) (.tup [0,1]) none elt) (st:=st) (xs.map fun x=>D.tup [f x,g x]) (xs.map h) (fun τ=>∃ a b,τ=a::b::rest) at_ (by simp) (by rw[List.length_map]; unfold lim; omega)
  (fun i d e τ h1 h2 hS=>by
   obtain⟨a',b',rfl⟩:=hS
   rw[List.getElem?_map]at h1 h2
   cases hx:xs[i]? with
   |none=>rw[hx]at h1; cases h1
   |some x=>
    rw[hx]at h1 h2
    cases h1; cases h2
    refine⟨some (f x)::some (g x)::rest,?_,_,_,rfl⟩
    have:=he x (List.mem_of_getElem? hx)
    show((runK c (n+1)).ev (some (f x)::some (g x)::rest) st elt).map _=_
    rw[this]; rfl) _ 0 (none::none::rest) rfl (Nat.zero_le _) ⟨_,_,rfl⟩
 have e2:(runK c (n+2)).ev τ st (.comp (.tup [0,1]) (.zip (.var ia) (.var ib)) none elt sr)=some (.loc st.length,st++[.lst true (xs.map h)]):=by
  rw[ev_k]
  simp only[stepEv,s1,Option.bind_some,hin,sz]
  rw[Nat.sub_zero,List.take_zero]at l
  rw[l]; rfl
 exact gc_evL e2 (noLocs_map hg)
noncomputable def tDay:List Nat:=[100,97,121]
noncomputable def tFolk:List Nat:=[102,111,108,107]
noncomputable def tX:List Nat:=[120]
noncomputable def tY:List Nat:=[121]
noncomputable def tFloor:List Nat:=[102,108,111,111,114]
noncomputable def tBelow:List Nat:=[98,101,108,111,119]
noncomputable def tSide:List Nat:=[115,105,100,101]
noncomputable def tLine:List Nat:=[108,105,110,101]
noncomputable def tStep:List Nat:=[115,116,101,112]
noncomputable def tCoins:List Nat:=[99,111,105,110,115]
theorem xDay:PySem.Str.ofString "day" = mk tDay:=by decide +kernel
theorem xFolk:PySem.Str.ofString "folk" = mk tFolk:=by decide +kernel
theorem xX:PySem.Str.ofString "x" = mk tX:=by decide +kernel
theorem xY:PySem.Str.ofString "y" = mk tY:=by decide +kernel
theorem xFloor:PySem.Str.ofString "floor" = mk tFloor:=by decide +kernel
theorem xBelow:PySem.Str.ofString "below" = mk tBelow:=by decide +kernel
theorem xSide:PySem.Str.ofString "side" = mk tSide:=by decide +kernel
theorem xLine:PySem.Str.ofString "line" = mk tLine:=by decide +kernel
theorem xStep:PySem.Str.ofString "step" = mk tStep:=by decide +kernel
theorem xCoins:PySem.Str.ofString "coins" = mk tCoins:=by decide +kernel
noncomputable def bT(w t d:Int):List (List Nat×Int×Int):=[(tDay,1,400),(tFolk,1,40),(tX,0,w - 1),(tY,0,t - 1),(tFloor,0,d),(tBelow,1,d),(tSide,0,1),(tLine,1,23),(tStep,0,4),(tCoins,1,1000000)]
noncomputable def pD(p:Int×Int):D:=.tup [.int p.1,.int p.2]
noncomputable def bP(w t d:Int):List (D×D):=(bT w t d).map fun p=>(tD p.1,pD p.2)
noncomputable def numB(v:D)(p:Int×Int):Bool:=match v with
 |.int i=>decide (p.1≤i)&&decide (i≤p.2)
 |_=>false
theorem fits_ok(m:Nat)(st:Store)(v:D)(p:Int×Int)(hv:flat 9 v=true):callD fns (m+1) 1 [v,pD p] st=some (.bl (numB v p),st):=by
 refine call_of (0+20) (F:=f_fits) rfl rfl rfl ?_
 show exs (stepEx (rn fns m (0+20))) b_fits [some v,some (pD p)] st=_
 unfold b_fits
 cases v with
 |int v=>
  rw[exs_ite_f rfl]
  refine exs_ret ?_
  have a:(rn fns m 19).ev [some (.int v),some (pD p)] st (.idx (.var 1) (.lit (.int 0)))=some (.int p.1,st):=rfl
  have b:(rn fns m 19).ev [some (.int v),some (pD p)] st (.idx (.var 1) (.lit (.int 1)))=some (.int p.2,st):=rfl
  have x:(rn fns m 19).ev [some (.int v),some (pD p)] st (.var 0)=some (.int v,st):=rfl
  show((rn fns m (19+1)).ev [some (.int v),some (pD p)] st _).map _=_
  rw[ev_k]
  simp only[stepEv,a,b,x,Option.bind_some,cmpD,numB]
  by_cases h:p.1≤v
  ·simp only[decide_eq_true h,if_true,Option.map_some,Bool.true_and]
  ·simp only[decide_eq_false h,Bool.false_eq_true,if_false,Option.map_some,Bool.false_and]
 |non=>rfl
 |bl b=>rfl
 |str z=>rfl
 |tup ds=>rfl
 |lst ds=>cases hv
 |loc l=>cases hv
theorem dput_new{kvs:List (D×D)}{k v:D}(h:∀ p∈kvs,eqT p.1 k=false):dput kvs k v=kvs++[(k,v)]:=by
 unfold dput
 rw[if_neg]
 intro z
 obtain⟨p,hp,e⟩:=List.any_eq_true.mp z
 rw[h p hp]at e
 cases e
theorem dall_go{β:Type}(g:β→D):∀ (L A:List (List Nat×β)),((A++L).map (·.1)).Nodup→(L.map fun p=>(tD p.1,g p.2)).foldl (fun acc p=>dput acc p.1 p.2) (A.map fun p=>(tD p.1,g p.2))=(A++L).map fun p=>(tD p.1,g p.2)
 |[],A,_=>by simp
 |q::L,A,h=>by
  rw[List.map_cons,List.foldl_cons,dput_new (fun p hp=>?_)]
  ·have:=dall_go g L (A++[q]) (by simpa using h)
   simpa using this
  ·obtain⟨a,ha,rfl⟩:=List.mem_map.mp hp
   show eqT (tD a.1) (tD q.1)=false
   rw[eq_tD]
   have:a.1≠q.1:=fun z=>by
    rw[List.map_append,List.map_cons,List.nodup_append]at h
    exact h.2.2 a.1 (List.mem_map.mpr ⟨a,ha,rfl⟩) q.1 List.mem_cons_self z
   simpa using this
theorem dall_ok{β:Type}(g:β→D)(L:List (List Nat×β))(h:(L.map (·.1)).Nodup):dall (L.map fun p=>(tD p.1,g p.2))=L.map fun p=>(tD p.1,g p.2):=dall_go g L [] (by simpa using h)
theorem kinds_nd(w t d:Int):((bT w t d).map (·.1)).Nodup:=by
 show [tDay,tFolk,tX,tY,tFloor,tBelow,tSide,tLine,tStep,tCoins].Nodup
 decide
theorem pb_ok(m:Nat)(w t d:Int):callD fns (m+1) 0 [zD w t d] []=some (.loc 0,[.dic (bP w t d)]):=by
 refine call_of (0+20) (F:=f_bounds) rfl rfl rfl ?_
 show exs (stepEx (rn fns m (0+20))) b_bounds [some (zD w t d)] []=_
 unfold b_bounds
 rw[xDay,xFolk,xX,xY,xFloor,xBelow,xSide,xLine,xStep,xCoins]
 refine exs_ret ?_
 have er:∀ (r:R) (τ:Sl) (st:Store) (e:E),stepEx r τ st (.ret e)=(r.ev τ st e).map fun p=>(Out.rt p.1,p.2):=fun _ _ _ _=>by simp only[stepEx]
 rw[er]
 show((runK (callD fns m) (19+1)).ev [some (zD w t d)] [] _).map _=_
 rw[ev_k]
 simp only[stepEv,List.nil_append,List.length_nil]
 generalize hE:evs _ _ _=r
 have e:r=some ((bT w t d).flatMap fun p=>[tD p.1,pD p.2],[.dic []]):=hE.symm.trans rfl
 subst e
 have pu:pairUp ((bT w t d).flatMap fun p=>[tD p.1,pD p.2])=some (bP w t d):=rfl
 have da:dall (bP w t d)=bP w t d:=dall_ok pD (bT w t d) (kinds_nd w t d)
 have di:dicAt [.dic []] 0=some []:=rfl
 simp only[Option.bind_some,di,pu,da]
 rfl
theorem dget_ok{β:Type}(g:β→D):∀ (L:List (List Nat×β)),(L.map (·.1)).Nodup→∀ q∈L,dget (L.map fun p=>(tD p.1,g p.2)) (tD q.1)=some (g q.2)
 |[],_,q,h=>by cases h
 |p::L,hn,q,h=>by
  rw[List.map_cons,List.nodup_cons]at hn
  unfold dget
  rcases List.mem_cons.mp h with rfl|h
  ·have e:eqT (tD q.1) (tD q.1)=true:=by rw[eq_tD]; simp
   rw[List.map_cons,List.find?_cons_of_pos (by exact e)]; rfl
  ·have:p.1≠q.1:=fun z=>hn.1 (by rw[z]; exact List.mem_map.mpr ⟨q,h,rfl⟩)
   have e:eqT (tD p.1) (tD q.1)=false:=by rw[eq_tD]; simpa using this
   rw[List.map_cons,List.find?_cons_of_neg (by show ¬ eqT (tD p.1) (tD q.1)=true; rw[e]; simp)]
   exact dget_ok g L hn.2 q h
theorem bools_ok:∀ bs:List Bool,asBools (bs.map D.bl)=some bs
 |[]=>rfl
 |b::bs=>by
  show(asBools (bs.map D.bl)).map _=_
  rw[bools_ok bs]; rfl
abbrev Ask:=D×List Nat×Int×Int
noncomputable def fit(x:Ask):Bool:=numB x.1 x.2.2
theorem elt_ok(m n:Nat)(w t d:Int)(x:Ask)(hx:x.2∈bT w t d)(hv:flat 9 x.1=true):(rn fns (m+1) (n+4)).ev [some x.1,some (tD x.2.1),some (.loc 0)] [.dic (bP w t d)] (.gc (.call 1 [(.var 0),(.didx (.var 2) (.var 1))]))=some (.bl (fit x),[.dic (bP w t d)]):=by
 have a:(rn fns (m+1) (n+2)).ev [some x.1,some (tD x.2.1),some (.loc 0)] [.dic (bP w t d)] (.var 0)=some (x.1,[.dic (bP w t d)]):=rfl
 have b:(rn fns (m+1) (n+2)).ev [some x.1,some (tD x.2.1),some (.loc 0)] [.dic (bP w t d)] (.didx (.var 2) (.var 1))=some (pD x.2.2,[.dic (bP w t d)]):=by
  have g:=dget_ok pD (bT w t d) (kinds_nd w t d) x.2 hx
  have di:dicAt [.dic (bP w t d)] 0=some (bP w t d):=rfl
  have v2:(rn fns (m+1) (n+1)).ev [some x.1,some (tD x.2.1),some (.loc 0)] [.dic (bP w t d)] (.var 2)=some (.loc 0,[.dic (bP w t d)]):=rfl
  have v1:(rn fns (m+1) (n+1)).ev [some x.1,some (tD x.2.1),some (.loc 0)] [.dic (bP w t d)] (.var 1)=some (tD x.2.1,[.dic (bP w t d)]):=rfl
  have ik:isKey (tD x.2.1)=true:=rfl
  have g':dget (bP w t d) (tD x.2.1)=some (pD x.2.2):=g
  rw[ev_k]
  simp only[stepEv,v1,v2,Option.bind_some,di,ik,if_true,g',Option.map_some]
 exact gc_call (n:=n+1) (by simp only[evs,a,b,Option.bind_some]) (fits_ok m _ x.1 x.2.2 hv) rfl
theorem gc_dic(kvs:List (D×D)):gcD [] (.loc 0,[.dic kvs])=(.loc 0,[.dic kvs]):=by
 unfold gcD
 simp[noLoc]
theorem len_tup{c:CF}{n:Nat}{τ:Sl}{st:Store}{i:Nat}{ds:List D}(h:τ[i]?=some (some (.tup ds))):(runK c (n+2)).ev τ st (.bcall .len [(.var i)])=some (.int ds.length,st):=by
 have v:(runK c (n+1)).ev τ st (.var i)=some (.tup ds,st):=evV h
 rw[ev_k]
 simp only[stepEv,evs,v,Option.bind_some,bfun,bLen]
theorem all_fit_ok(m:Nat)(w t d:Int)(xs:List Ask)(hx:∀ x∈xs,x.2∈bT w t d)(hv:∀ x∈xs,flat 9 x.1=true)(hl:xs.length<1000):
  callD fns (m+2) 2 [zD w t d,.tup (xs.map fun x=>tD x.2.1),.tup (xs.map fun x=>x.1)] []=some (.bl (xs.all fit),[.dic (bP w t d)]):=by
 refine call_of (0+20) (F:=f_all_fit) rfl rfl rfl ?_
 show exs (stepEx (rn fns (m+1) (0+20))) b_all_fit [some (zD w t d),some (.tup (xs.map fun x=>tD x.2.1)),some (.tup (xs.map fun x=>x.1)),none] []=_
 unfold b_all_fit
 have l2:(rn fns (m+1) 19).ev [some (zD w t d),some (.tup (xs.map fun x=>tD x.2.1)),some (.tup (xs.map fun x=>x.1)),none] [] (.bcall .len [(.var 2)])=some (.int xs.length,[]):=(len_tup (n:=17) rfl).trans (by rw[List.length_map])
 have l1:(rn fns (m+1) 19).ev [some (zD w t d),some (.tup (xs.map fun x=>tD x.2.1)),some (.tup (xs.map fun x=>x.1)),none] [] (.bcall .len [(.var 1)])=some (.int xs.length,[]):=(len_tup (n:=17) rfl).trans (by rw[List.length_map])
 have c:(rn fns (m+1) (19+1)).tst [some (zD w t d),some (.tup (xs.map fun x=>tD x.2.1)),some (.tup (xs.map fun x=>x.1)),none] [] (.cmp .NotEq (.bcall .len [(.var 2)]) (.bcall .len [(.var 1)]))=some (false,[]):=by
  rw[tst_k]
  simp only[stepTst,l1,l2,Option.bind_some,cmpD,neD,eqD_ii,Option.map_some,beq_self_eq_true,Bool.not_true]
 refine(exs_ite_f (n:=19) c).trans ?_
 have v0:(rn fns (m+1) 18).ev [some (zD w t d),some (.tup (xs.map fun x=>tD x.2.1)),some (.tup (xs.map fun x=>x.1)),none] [] (.var 0)=some (zD w t d,[]):=rfl
 have k0:(rn fns (m+1) (19+1)).ev [some (zD w t d),some (.tup (xs.map fun x=>tD x.2.1)),some (.tup (xs.map fun x=>x.1)),none] [] (.gc (.call 0 [(.var 0)]))=some (.loc 0,[.dic (bP w t d)]):=by
  have k1:(rn fns (m+1) (18+1)).ev [some (zD w t d),some (.tup (xs.map fun x=>tD x.2.1)),some (.tup (xs.map fun x=>x.1)),none] [] (.call 0 [(.var 0)])=some (.loc 0,[.dic (bP w t d)]):=by
   rw[ev_k]
   simp only[stepEv,evs,v0,Option.bind_some,call_k]
   exact pb_ok m w t d
  rw[ev_k]
  simp only[stepEv,k1,Option.map_some,gc_dic]
 refine(exs_cons (τ':=[some (zD w t d),some (.tup (xs.map fun x=>tD x.2.1)),some (.tup (xs.map fun x=>x.1)),some (.loc 0)]) (s':=[.dic (bP w t d)]) (by
  have es:∀ (r:R) (τ:Sl) (st:Store) (e:E),stepEx r τ st (.set (.var 3) e)=(r.ev τ st e).bind fun p=>(setT (.var 3) p.1 τ).map fun τ'=>(Out.nx τ',p.2):=fun _ _ _ _=>by simp only[stepEx]
  rw[es,show(0+20)=19+1 from rfl,k0]
  rfl)).trans ?_
 have cz:=gc_compZ (c:=callD fns (m+1)) (n:=16) (τ:=[some (zD w t d),some (.tup (xs.map fun x=>tD x.2.1)),some (.tup (xs.map fun x=>x.1)),some (.loc 0)]) (st:=[.dic (bP w t d)]) (elt:=.gc (.call 1 [(.var 0),(.didx (.var 2) (.var 1))])) (sr:=[none,none,some 3]) (rest:=[some (.loc 0)]) (ia:=2) (ib:=1)
  xs (fun x=>x.1) (fun x=>tD x.2.1) (fun x=>.bl (fit x)) rfl rfl rfl (by omega) (fun _ _=>rfl) (fun x h=>elt_ok m 13 w t d x (hx x h) (hv x h))
 refine exs_ret ?_
 have er:∀ (r:R) (τ:Sl) (st:Store) (e:E),stepEx r τ st (.ret e)=(r.ev τ st e).map fun p=>(Out.rt p.1,p.2):=fun _ _ _ _=>by simp only[stepEx]
 have ab:asBools (xs.map fun x=>D.bl (fit x))=some (xs.map fit):=by
  have:=bools_ok (xs.map fit)
  rwa [List.map_map]at this
 rw[er,show(0+20)=19+1 from rfl,ev_k]
 simp only[stepEv,evs,cz,Option.bind_some,bfun,bAll,seqAt,ab,Option.map_some,List.all_map]
 rfl
theorem all_fit_ne(m:Nat)(w t d:Int)(ks vs:List D)(h:vs.length≠ks.length):
  callD fns (m+1) 2 [zD w t d,.tup ks,.tup vs] []=some (.bl false,[]):=by
 refine call_of (0+20) (F:=f_all_fit) rfl rfl rfl ?_
 show exs (stepEx (rn fns m (0+20))) b_all_fit [some (zD w t d),some (.tup ks),some (.tup vs),none] []=_
 unfold b_all_fit
 have l2:(rn fns m 19).ev [some (zD w t d),some (.tup ks),some (.tup vs),none] [] (.bcall .len [(.var 2)])=some (.int vs.length,[]):=len_tup (n:=17) rfl
 have l1:(rn fns m 19).ev [some (zD w t d),some (.tup ks),some (.tup vs),none] [] (.bcall .len [(.var 1)])=some (.int ks.length,[]):=len_tup (n:=17) rfl
 have ne:((vs.length:Int)==(ks.length:Int))=false:=by simp; omega
 have c:(rn fns m (19+1)).tst [some (zD w t d),some (.tup ks),some (.tup vs),none] [] (.cmp .NotEq (.bcall .len [(.var 2)]) (.bcall .len [(.var 1)]))=some (true,[]):=by
  rw[tst_k]
  simp only[stepTst,l1,l2,Option.bind_some,cmpD,neD,eqD_ii,Option.map_some,ne,Bool.not_false]
 exact exs_ite_t (n:=19) c (ret_ok (n:=19) rfl)
noncomputable def fitB(row:List (List Nat×Int×Int))(ds:List D):Bool:=decide (ds.length=row.length)&&(ds.zip row).all fit
theorem fits_all(m:Nat)(w t d:Int)(row:List (List Nat×Int×Int))(ds:List D)(hr:∀ x∈row,x∈bT w t d)(hd:∀ x∈ds,flat 9 x=true)(hl:ds.length<1000):
  ∃ r,callD fns (m+2) 2 [zD w t d,.tup (row.map fun x=>tD x.1),.tup ds] []=some (.bl (fitB row ds),r):=by
 by_cases h:ds.length=row.length
 ·have q:=all_fit_ok m w t d (ds.zip row) (fun x hx=>hr _ (List.of_mem_zip hx).2) (fun x hx=>hd _ (List.of_mem_zip hx).1) (by rw[List.length_zip]; omega)
  refine⟨[.dic (bP w t d)],?_⟩
  have e1:((ds.zip row).map fun x=>tD x.2.1)=row.map fun x=>tD x.1:=by
   have:=List.map_snd_zip (l₁:=ds) (l₂:=row) (by omega)
   conv=>rhs; rw[← this,List.map_map]
   rfl
  have e2:((ds.zip row).map fun x=>x.1)=ds:=List.map_fst_zip (by omega)
  rw[e1,e2]at q
  rw[q,fitB,decide_eq_true h,Bool.true_and]
 ·refine⟨[],?_⟩
  rw[all_fit_ne (m+1) w t d _ ds (by rw[List.length_map]; exact h),fitB,decide_eq_false h,Bool.false_and]
theorem flats_all(n:Nat):∀ ds:List D,flats n ds=ds.all (flat n)
 |[]=>by rw[flats]; rfl
 |d::ds=>by rw[flats,flats_all n ds]; rfl
theorem flats_mem{n:Nat}{ds:List D}(h:flats n ds=true):∀ x∈ds,flat n x=true:=by
 rw[flats_all,List.all_eq_true]at h
 exact h
theorem flats_of{n:Nat}{ds:List D}(h:∀ x∈ds,flat n x=true):flats n ds=true:=by
 rw[flats_all,List.all_eq_true]
 exact h
theorem flat_up:∀ (n:Nat) (d:D),flat n d=true→flat (n+1) d=true
 |n,.non,_=>flat_n _
 |n,.bl b,_=>flat_b _ _
 |n,.int b,_=>flat_i _ _
 |n,.str b,_=>flat_s _ _
 |n,.loc b,h=>by cases n<;>cases h
 |n,.lst b,h=>by cases n<;>cases h
 |0,.tup ds,h=>by cases h
 |n+1,.tup ds,h=>by
  have h':flats n ds=true:=h
  show flats (n+1) ds=true
  exact flats_of fun x hx=>flat_up n x (flats_mem h' x hx)
theorem tup_fl{n:Nat}{ds:List D}(h:flat (n+1) (.tup ds)=true):∀ x∈ds,flat (n+1) x=true:=fun x hx=>flat_up n x (flats_mem h x hx)
mutual
theorem flat_nl:∀ (n:Nat) (d:D),flat n d=true→noLoc d=true
 |n,.non,_=>rfl
 |n,.bl b,_=>rfl
 |n,.int b,_=>rfl
 |n,.str b,_=>rfl
 |n,.loc b,h=>by cases n<;>cases h
 |n,.lst b,h=>by cases n<;>cases h
 |0,.tup ds,h=>by cases h
 |n+1,.tup ds,h=>by
  rw[noLoc_tup]
  exact flats_nl n ds h
theorem flats_nl:∀ (n:Nat) (ds:List D),flats n ds=true→noLocs ds=true
 |n,[],_=>rfl
 |n,d::ds,h=>by
  rw[flats,Bool.and_eq_true]at h
  rw[noLocs_cons,flat_nl n d h.1,flats_nl n ds h.2]; rfl
end
theorem gc_drop{c:CF}{n f:Nat}{τ:Sl}{es:List E}{ds:List D}{d:D}{r:Store}(hes:evs ((runK c (n+1)).ev τ) es []=some (ds,[]))(h:c f ds []=some (d,r))(hd:noLoc d=true):(runK c (n+3)).ev τ [] (.gc (.call f es))=some (d,[]):=by
 have k1:(runK c (n+2)).ev τ [] (.call f es)=some (d,r):=by
  show(evs ((runK c (n+1)).ev τ) es []).bind _=_
  rw[hes]
  exact h
 have g:gcD [] (d,r)=(d,[]):=gc_app (st:=[]) hd
 rw[ev_k]
 simp only[stepEv,k1,Option.map_some,g]
theorem ev_and{c:CF}{n:Nat}{τ:Sl}{a b:E}{x y:Bool}(ha:(runK c n).ev τ [] a=some (.bl x,[]))(hb:x=true→(runK c n).ev τ [] b=some (.bl y,[])):(runK c (n+1)).ev τ [] (.and a b)=some (.bl (x&&y),[]):=by
 rw[ev_k]
 simp only[stepEv,ha,Option.bind_some]
 cases x with
 |true=>rw[hb rfl,Bool.true_and]
 |false=>rw[Bool.false_and]
noncomputable def rowB(row:List (List Nat×Int×Int))(v:D):Bool:=match v with
 |.tup ds=>fitB row ds
 |_=>false
noncomputable def isT(v:D):Bool:=match v with
 |.tup _=>true
 |_=>false
theorem isi_t{c:CF}{n i:Nat}{τ:Sl}{st:Store}{v:D}(h:τ[i]?=some (some v))(hv:flat 9 v=true):(runK c (n+2)).ev τ st (.isi (.var i) [.tup] false)=some (.bl (isT v),st):=by
 have a:(runK c (n+1)).ev τ st (.var i)=some (v,st):=evV h
 rw[ev_k]
 simp only[stepEv,a,Option.bind_some]
 cases v with
 |int v=>rfl
 |non=>rfl
 |bl b=>rfl
 |str z=>rfl
 |tup ds=>rfl
 |lst ds=>cases hv
 |loc l=>cases hv
theorem row_ok(m:Nat)(w t d:Int)(row:List (List Nat×Int×Int))(hr:∀ x∈row,x∈bT w t d)(e:E)(v:D)(hv:flat 9 v=true)(hl:∀ ds,v=.tup ds→ds.length<1000)
  (he:(rn fns (m+2) 17).ev [some (zD w t d),some v] [] e=some (.tup (row.map fun x=>tD x.1),[])) :
  exs (stepEx (rn fns (m+2) (0+20))) [.ret (.and (.isi (.var 1) [.tup] false) (.gc (.call 2 [(.var 0),e,(.var 1)])))] [some (zD w t d),some v] []=some (.rt (.bl (rowB row v)),[]):=by
 have i:=isi_t (c:=callD fns (m+2)) (n:=17) (i:=1) (τ:=[some (zD w t d),some v]) (st:=[]) rfl hv
 refine ret_ok ((ev_and (n:=19) (x:=isT v) (y:=rowB row v) i fun hx=>?_).trans ?_)
 ·cases v with
  |tup ds=>
   obtain⟨r,k⟩:=fits_all m w t d row ds hr (tup_fl hv) (hl ds rfl)
   have a0:(rn fns (m+2) 17).ev [some (zD w t d),some (.tup ds)] [] (.var 0)=some (zD w t d,[]):=rfl
   have a1:(rn fns (m+2) 17).ev [some (zD w t d),some (.tup ds)] [] (.var 1)=some (.tup ds,[]):=rfl
   exact gc_drop (c:=callD fns (m+2)) (n:=16) (by simp only[evs,a0,he,a1,Option.bind_some]) k rfl
  |_=>cases hx
 ·cases v<;>rfl
noncomputable def cellR(w t:Int):List (List Nat×Int×Int):=[(tX,0,w - 1),(tY,0,t - 1)]
theorem is_cell_ok(m:Nat)(w t d:Int)(v:D)(hv:flat 9 v=true)(hl:∀ ds,v=.tup ds→ds.length<1000):callD fns (m+3) 3 [zD w t d,v] []=some (.bl (rowB (cellR w t) v),[]):=by
 refine call_of (0+20) (F:=f_is_cell) rfl rfl rfl ?_
 show exs (stepEx (rn fns (m+2) (0+20))) b_is_cell [some (zD w t d),some v] []=_
 unfold b_is_cell
 rw[xX,xY]
 refine row_ok m w t d (cellR w t) (fun x hx=>?_) _ v hv hl rfl
 simp only[cellR,List.mem_cons,List.not_mem_nil,or_false]at hx
 rcases hx with rfl|rfl
 ·exact .tail _ (.tail _ (.head _))
 ·exact .tail _ (.tail _ (.tail _ (.head _)))
theorem flat_rep(x:D):∀ n:Nat,(List.replicate n [x]).flatten=List.replicate n x
 |0=>rfl
 |n+1=>by rw[List.replicate_succ,List.flatten_cons,flat_rep x n,List.replicate_succ]; rfl
theorem mul_tup(S:Store)(x:D)(d:Int)(h0:0≤d)(h1:d≤12):binop S .Mult (.tup [x]) (.int d)=some (.tup (List.replicate d.toNat x),S):=by
 have c:(decide (d < -(2 ^ 62))||decide (2 ^ 62≤d)||decide (lim<[x].length*d.toNat))=false:=by
  unfold lim
  simp
  omega
 show(if _ then none else some _)=_
 rw[if_neg (by rw[c]; simp),flat_rep]
noncomputable def stepR(d:Int):List (List Nat×Int×Int):=List.replicate d.toNat (tStep,0,4)
theorem good_steps_ok(m:Nat)(w t d:Int)(h0:0≤d)(h1:d≤12)(v:D)(hv:flat 9 v=true)(hl:∀ ds,v=.tup ds→ds.length<1000):callD fns (m+3) 4 [zD w t d,v] []=some (.bl (rowB (stepR d) v),[]):=by
 refine call_of (0+20) (F:=f_good_steps) rfl rfl rfl ?_
 show exs (stepEx (rn fns (m+2) (0+20))) b_good_steps [some (zD w t d),some v] []=_
 unfold b_good_steps
 rw[xStep]
 refine row_ok m w t d (stepR d) (fun x hx=>?_) _ v hv hl ?_
 ·rw[List.eq_of_mem_replicate hx]
  exact .tail _ (.tail _ (.tail _ (.tail _ (.tail _ (.tail _ (.tail _ (.tail _ (.head _))))))))
 ·have a:(rn fns (m+2) 16).ev [some (zD w t d),some v] [] (.tup [(.lit (.str (mk tStep)))])=some (.tup [tD tStep],[]):=rfl
  have b:(rn fns (m+2) 16).ev [some (zD w t d),some v] [] (.idx (.var 0) (.lit (.int 2)))=some (.int d,[]):=rfl
  rw[ev_k]
  simp only[stepEv,a,b,Option.bind_some,mul_tup _ _ d h0 h1,stepR,List.map_replicate]
noncomputable def kD(k:List Int):D:=.tup (k.map D.int)
theorem key_k:∀ k:List Int,((k.map D.int).mapM fun d=>match d with|.int i=>some i|_=>none)=some k
 |[]=>rfl
 |i::k=>by
  rw[List.map_cons,List.mapM_cons,key_k k]
  rfl
theorem keyD_k(k:List Int):keyD (kD k)=some k:=key_k k
theorem keys_k:∀ ks:List (List Int),(ks.map kD).mapM keyD=some ks
 |[]=>rfl
 |k::ks=>by
  rw[List.map_cons,List.mapM_cons,keys_k ks,keyD_k]
  rfl
theorem eqTs_k:∀ a b:List Int,eqTs (a.map D.int) (b.map D.int)=(a==b)
 |[],[]=>by rw[List.map_nil,eqTs]; rfl
 |[],b::bs=>rfl
 |a::as,[]=>rfl
 |a::as,b::bs=>by
  show(eqT (.int a) (.int b)&&eqTs (as.map D.int) (bs.map D.int))=_
  rw[eqT_ii,eqTs_k as bs]
  rfl
theorem eqT_k(a b:List Int):eqT (kD a) (kD b)=(a==b):=by
 show eqTs (a.map D.int) (b.map D.int)=_
 exact eqTs_k a b
noncomputable def uniqB:List D→List D→Bool
 |_,[]=>true
 |prev,c::cs=>!(prev.any fun y=>eqT y c)&&uniqB (prev++[c]) cs
theorem addK_len:∀ (ks S:List (List Int)),(ks.foldl addK S).length≤S.length+ks.length
 |[],S=>by simp
 |k::ks,S=>by
  rw[List.foldl_cons]
  have:=addK_len ks (addK S k)
  have h:(addK S k).length≤S.length+1:=by unfold addK; split<;>simp
  simp only[List.length_cons]
  omega
theorem uniq_k:∀ (ks S:List (List Int)),decide ((ks.foldl addK S).length=S.length+ks.length)=uniqB (S.map kD) (ks.map kD)
 |[],S=>by simp[uniqB]
 |k::ks,S=>by
  have a:((S.map kD).any fun y=>eqT y (kD k))=decide (k∈S):=by
   rw[List.any_map]
   have:((fun y=>eqT y (kD k))∘kD)=fun x=>x==k:=by funext x; exact eqT_k x k
   rw[this,Bool.eq_iff_iff,List.any_eq_true,decide_eq_true_iff]
   constructor
   ·rintro⟨x,hx,e⟩
    rw[beq_iff_eq]at e
    exact e▸hx
   ·exact fun h=>⟨k,h,by simp⟩
  rw[List.foldl_cons,List.map_cons,uniqB,a]
  by_cases h:k∈S
  ·have e:addK S k=S:=by unfold addK; rw[if_pos h]
   have:=addK_len ks S
   rw[e,decide_eq_true h]
   simp only[List.length_cons,Bool.not_true,Bool.false_and,decide_eq_false_iff_not]
   omega
  ·have e:addK S k=S++[k]:=by unfold addK; rw[if_neg h]
   have:=uniq_k ks (S++[k])
   rw[List.map_append]at this
   rw[e,decide_eq_false h,Bool.not_false,Bool.true_and]
   refine Eq.trans ?_ this
   simp only[List.length_append,List.length_cons,List.length_nil]
   congr 1
   rw[eq_iff_iff]
   omega
theorem cell_k{w t:Int}{v:D}(h:rowB (cellR w t) v=true):∃ k,v=kD k:=by
 cases v with
 |tup ds=>
  have h':fitB (cellR w t) ds=true:=h
  rw[fitB,Bool.and_eq_true,decide_eq_true_iff]at h'
  obtain⟨hl,hf⟩:=h'
  match ds,hl,hf with
  |[a,b],_,hf=>
   have q:(numB a (0,w - 1)&&(numB b (0,t - 1)&&true))=true:=hf
   rw[Bool.and_eq_true,Bool.and_eq_true]at q
   cases a with
   |int x=>
    cases b with
    |int y=>exact⟨[x,y],rfl⟩
    |_=>cases q.2.1
   |_=>cases q.1
 |_=>cases h
theorem cells_k{w t:Int}:∀ {cs:List D},cs.all (rowB (cellR w t))=true→∃ ks:List (List Int),cs=ks.map kD
 |[],_=>⟨[],rfl⟩
 |c::cs,h=>by
  rw[List.all_cons,Bool.and_eq_true]at h
  obtain⟨k,rfl⟩:=cell_k h.1
  obtain⟨ks,rfl⟩:=cells_k h.2
  exact⟨k::ks,rfl⟩
noncomputable def outsV(w t:Int)(v:D):Bool:=match v with
 |.tup cs=>decide (1≤cs.length)&&decide (cs.length≤16)&&(cs.all (rowB (cellR w t))&&uniqB [] cs)
 |_=>false
theorem outs_len{c:CF}{n:Nat}{τ:Sl}{st:Store}{cs:List D}{x:Str}(h:τ[1]?=some (some (.tup cs))):(runK c (n+4)).tst τ st (.not (.cmp2 .LtE .LtE (.lit (.int 1)) (.bcall .len [(.var 1)]) (.glo x (.int 16))))=some (!(decide (1≤cs.length)&&decide (cs.length≤16)),st):=by
 have l:(runK c (n+2)).ev τ st (.bcall .len [(.var 1)])=some (.int cs.length,st):=len_tup h
 have a:(runK c (n+2)).ev τ st (.lit (.int 1))=some (.int 1,st):=rfl
 have b:(runK c (n+2)).ev τ st (.glo x (.int 16))=some (.int 16,st):=rfl
 rw[tst_k]
 simp only[stepTst]
 rw[tst_k]
 simp only[stepTst,l,a,b,Option.bind_some,cmpD]
 by_cases h1:1≤cs.length
 ·have h1':(1:Int)≤cs.length:=by omega
  simp only[decide_eq_true h1,decide_eq_true h1',if_true,Option.map_some,Bool.true_and]
  have:decide ((cs.length:Int)≤16)=decide (cs.length≤16):=by congr 1; rw[eq_iff_iff]; omega
  rw[this]
 ·have h1':¬ (1:Int)≤cs.length:=by omega
  simp only[decide_eq_false h1,decide_eq_false h1',Bool.false_eq_true,if_false,Option.map_some,Bool.false_and]
theorem good_outs_ok(m:Nat)(w t d:Int)(v:D)(hv:flat 9 v=true)(hl:∀ ds,v=.tup ds→ds.length<1000)(hl2:∀ ds,v=.tup ds→∀ x∈ds,∀ es,x=.tup es→es.length<1000):callD fns (m+4) 5 [zD w t d,v] []=some (.bl (outsV w t v),[]):=by
 refine call_of (0+20) (F:=f_good_outcrops) rfl rfl rfl ?_
 show exs (stepEx (rn fns (m+3) (0+20))) b_good_outcrops [some (zD w t d),some v] []=_
 unfold b_good_outcrops
 cases v with
 |tup cs=>
  have hc:=tup_fl hv
  have i:(rn fns (m+3) 18).tst [some (zD w t d),some (.tup cs)] [] (.not (.isi (.var 1) [.tup] false))=some (false,[]):=rfl
  have l:(rn fns (m+3) 19).tst [some (zD w t d),some (.tup cs)] [] (.not (.cmp2 .LtE .LtE (.lit (.int 1)) (.bcall .len [(.var 1)]) (.glo "MOST_COLUMNS" (.int 16))))=_:=outs_len (c:=callD fns (m+3)) (n:=15) rfl
  have i':(rn fns (m+3) 19).tst [some (zD w t d),some (.tup cs)] [] (.not (.isi (.var 1) [.tup] false))=some (false,[]):=rfl
  have c:(rn fns (m+3) (19+1)).tst [some (zD w t d),some (.tup cs)] [] (.or (.not (.isi (.var 1) [.tup] false)) (.not (.cmp2 .LtE .LtE (.lit (.int 1)) (.bcall .len [(.var 1)]) (.glo "MOST_COLUMNS" (.int 16)))))=some (!(decide (1≤cs.length)&&decide (cs.length≤16)),[]):=by
   rw[tst_k]
   simp only[stepTst,i',Option.bind_some,Bool.false_eq_true,if_false,l]
  show _=some (Out.rt (D.bl (decide (1≤cs.length)&&decide (cs.length≤16)&&(cs.all (rowB (cellR w t))&&uniqB [] cs))),[])
  cases hb:(decide (1≤cs.length)&&decide (cs.length≤16)) with
  |false=>
   rw[hb]at c
   rw[Bool.false_and]
   exact exs_ite_t (n:=19) c (ret_ok (n:=19) rfl)
  |true=>
   rw[hb]at c
   rw[Bool.true_and]
   refine(exs_ite_f (n:=19) c).trans ?_
   have cp:=gc_comp (c:=callD fns (m+3)) (n:=15) (τ:=[some (zD w t d),some (.tup cs)]) (st:=[]) (it:=.var 1) (elt:=.gc (.call 3 [(.var 1),(.var 0)])) (sr:=[none,some 0]) (s:=.tup cs) (rest:=[some (zD w t d)]) cs (fun x=>x) (fun x=>.bl (rowB (cellR w t) x)) (src_tup (n:=14) rfl) (fun i=>by rw[List.map_id']; rfl) rfl rfl (by have:=hl cs rfl; omega) (fun _ _=>rfl) (fun x hx=>gc_call (n:=12) (ds:=[zD w t d,x]) rfl (is_cell_ok m w t d x (hc x hx) (hl2 cs rfl x hx)) rfl)
   have ab:asBools (cs.map fun x=>D.bl (rowB (cellR w t) x))=some (cs.map (rowB (cellR w t))):=by
    have:=bools_ok (cs.map (rowB (cellR w t)))
    rwa [List.map_map]at this
   have al:(rn fns (m+3) 18).ev [some (zD w t d),some (.tup cs)] [] (.bcall .all [(.gc (.comp (.var 0) (.var 1) none (.gc (.call 3 [(.var 1),(.var 0)])) [none,some 0]))])=some (.bl (cs.all (rowB (cellR w t))),[]):=by
    have cp':(runK (callD fns (m+3)) 17).ev _ _ _=_:=cp
    rw[ev_k]
    simp only[stepEv,evs,cp',Option.bind_some,bfun,bAll,seqAt,ab,Option.map_some,List.all_map]
    rfl
   have c2:(rn fns (m+3) (19+1)).tst [some (zD w t d),some (.tup cs)] [] (.not (.bcall .all [(.gc (.comp (.var 0) (.var 1) none (.gc (.call 3 [(.var 1),(.var 0)])) [none,some 0]))]))=some (!(cs.all (rowB (cellR w t))),[]):=by
    rw[tst_k]
    simp only[stepTst]
    rw[tst_k]
    simp only[stepTst,al,Option.bind_some,truth,Option.map_some]
   cases ha:cs.all (rowB (cellR w t)) with
   |false=>
    rw[ha]at c2
    rw[Bool.false_and]
    exact exs_ite_t (n:=19) c2 (ret_ok (n:=19) rfl)
   |true=>
    rw[ha]at c2
    rw[Bool.true_and]
    refine(exs_ite_f (n:=19) c2).trans ?_
    obtain⟨ks,rfl⟩:=cells_k ha
    rw[Bool.and_eq_true,decide_eq_true_iff,decide_eq_true_iff]at hb
    have ls:lensetD (.tup (ks.map kD))=some (.int ((distinct ks).length:Nat)):=by
     show((ks.map kD).mapM keyD).bind _=_
     rw[keys_k]
     simp only[Option.bind_some]
     rw[if_pos hb.2]
    have e1:(rn fns (m+3) 19).ev [some (zD w t d),some (.tup (ks.map kD))] [] (.lenset (.var 1))=some (.int ((distinct ks).length:Nat),[]):=by
     have v1:(rn fns (m+3) 18).ev [some (zD w t d),some (.tup (ks.map kD))] [] (.var 1)=some (.tup (ks.map kD),[]):=rfl
     rw[ev_k]
     simp only[stepEv,v1,Option.bind_some,ls,Option.map_some]
    have e2:(rn fns (m+3) 19).ev [some (zD w t d),some (.tup (ks.map kD))] [] (.bcall .len [(.var 1)])=some (.int ((ks.map kD).length:Nat),[]):=len_tup (n:=17) rfl
    have u:=uniq_k ks []
    refine ret_ok ?_
    show(rn fns (m+3) (19+1)).ev _ _ _=_
    rw[ev_k]
    simp only[stepEv,e1,e2,Option.bind_some,cmpD,eqD_ii,Option.map_some]
    rw[List.map_nil]at u
    rw[← u]
    simp only[List.length_map,distinct,List.length_nil,Nat.zero_add]
    congr 3
    rw[Bool.eq_iff_iff,beq_iff_eq,decide_eq_true_iff]
    omega
 |int v=>rfl
 |non=>rfl
 |bl b=>rfl
 |str z=>rfl
 |lst ds=>cases hv
 |loc l=>cases hv
abbrev Row:=List (List Nat×Int×Int)
noncomputable def wStake:List Nat:=[115,116,97,107,101]
noncomputable def wPay:List Nat:=[112,97,121]
noncomputable def wR(w t d:Int):List (List Nat×Row):=
 [([106,111,105,110],[(tDay,1,400),(tDay,1,400),(tBelow,1,d)]),
  (wStake,[(tFolk,1,40),(tX,0,w - 1),(tY,0,t - 1),(tX,0,w - 1),(tY,0,t - 1)]),
  ([119,111,114,107],[(tDay,1,400)]),
  ([115,101,108,108],[(tDay,1,400),(tFolk,1,40)]),
  ([112,97,114,116],[(tDay,1,400),(tSide,0,1),(tLine,1,23),(tFolk,1,40)]),
  ([103,105,118,101],[(tDay,1,400)]),
  ([100,105,103],[(tFolk,1,40),(tX,0,w - 1),(tY,0,t - 1),(tX,0,w - 1),(tY,0,t - 1),(tFloor,0,d),(tCoins,1,1000000)]),
  (wPay,[(tFolk,1,40),(tFolk,1,40),(tCoins,1,1000000)])]
theorem wR_bT(w t d:Int):∀ p∈wR w t d,∀ x∈p.2,x∈bT w t d:=by
 intro p hp
 simp only[wR,List.mem_cons,List.not_mem_nil,or_false]at hp
 rcases hp with rfl|rfl|rfl|rfl|rfl|rfl|rfl|rfl <;>
  (intro x hx
   simp only[List.mem_cons,List.not_mem_nil,or_false]at hx
   simp only[bT,List.mem_cons,List.not_mem_nil,or_false]
   grind)
theorem wR_len(w t d:Int):∀ p∈wR w t d,p.2.length≤7:=by
 intro p hp
 simp only[wR,List.mem_cons,List.not_mem_nil,or_false]at hp
 rcases hp with rfl|rfl|rfl|rfl|rfl|rfl|rfl|rfl<;>simp
noncomputable def stakeB(ds:List D):Bool:=match ds with
 |[_,.int a,.int b,.int c,.int e]=>decide (a≤c)&&decide (b≤e)
 |_=>false
noncomputable def payB(ds:List D):Bool:=match ds with
 |[.int a,.int b,_]=>!(a==b)
 |_=>false
noncomputable def agreeB(x:List Nat)(ds:List D):Bool:=if x=wStake then stakeB ds else if x=wPay then payB ds else true
noncomputable def veinB(w t d:Int)(ds:List D):Bool:=match ds with
 |[a,b]=>rowB (stepR d) a&&outsV w t b
 |_=>false
noncomputable def soundB(w t d:Int)(x:List Nat)(ds:List D):Bool:=if x=wVein then veinB w t d ds else match (wR w t d).find? fun p=>p.1==x with
 |none=>false
 |some p=>fitB p.2 ds&&agreeB x ds
structure Sm2 (ds:List D):Prop where
 len:ds.length<900
 fl:∀ x∈ds,flat 8 x=true
 l1:∀ x∈ds,∀ es,x=.tup es→es.length<1000
 l2:∀ x∈ds,∀ es,x=.tup es→∀ y∈es,∀ zs,y=.tup zs→zs.length<1000
theorem eqw{c:CF}{n i:Nat}{τ:Sl}{st:Store}{x y:List Nat}{ds:List D}(h:τ[i]?=some (some (.tup (tD x::ds)))):(runK c (n+3)).tst τ st (.cmp .Eq (.idx (.var i) (.lit (.int 0))) (.lit (.str (mk y))))=some (x==y,st):=by
 have a:(runK c (n+1)).ev τ st (.var i)=some (.tup (tD x::ds),st):=evV h
 have b:(runK c (n+1)).ev τ st (.lit (.int 0))=some (.int 0,st):=rfl
 have e:(runK c (n+2)).ev τ st (.idx (.var i) (.lit (.int 0)))=some (tD x,st):=by
  rw[ev_k]
  simp only[stepEv,a,b,Option.bind_some,ix0,Option.map_some]
 have f:(runK c (n+2)).ev τ st (.lit (.str (mk y)))=some (tD y,st):=rfl
 rw[tst_k]
 simp only[stepTst,e,f,Option.bind_some,cmpD,eq_tt,Option.map_some]
theorem sound_vein_ok(m:Nat)(w t d:Int)(h0:0≤d)(h1:d≤12)(x:List Nat)(ds:List D)(hs:Sm2 ds):callD fns (m+5) 6 [zD w t d,.tup (tD x::ds)] []=some (.bl (veinB w t d ds),[]):=by
 refine call_of (0+20) (F:=f_sound_vein) rfl rfl rfl ?_
 show exs (stepEx (rn fns (m+4) (0+20))) b_sound_vein [some (zD w t d),some (.tup (tD x::ds))] []=_
 unfold b_sound_vein
 have l:(rn fns (m+4) 18).ev [some (zD w t d),some (.tup (tD x::ds))] [] (.bcall .len [(.var 1)])=some (.int ((tD x::ds).length:Nat),[]):=len_tup (n:=16) rfl
 have l3:(rn fns (m+4) 18).ev [some (zD w t d),some (.tup (tD x::ds))] [] (.lit (.int 3))=some (.int 3,[]):=rfl
 have c:(rn fns (m+4) 19).ev [some (zD w t d),some (.tup (tD x::ds))] [] (.cmp .Eq (.bcall .len [(.var 1)]) (.lit (.int 3)))=some (.bl (decide (ds.length=2)),[]):=by
  rw[ev_k]
  simp only[stepEv,l,l3,Option.bind_some,cmpD,eqD_ii,Option.map_some]
  congr 3
  rw[Bool.eq_iff_iff,beq_iff_eq,decide_eq_true_iff,List.length_cons]
  omega
 refine ret_ok ((ev_and (n:=19) (x:=decide (ds.length=2)) (y:=veinB w t d ds) c fun hx=>?_).trans ?_)
 ·match ds,hs,hx with
  |[a,b],hs,_=>
   have ha:a∈[a,b]:=List.mem_cons_self
   have hb:b∈[a,b]:=List.mem_cons_of_mem _ List.mem_cons_self
   have k1:=good_steps_ok (m+1) w t d h0 h1 a (flat_up 8 a (hs.fl a ha)) (hs.l1 a ha)
   have k2:=good_outs_ok m w t d b (flat_up 8 b (hs.fl b hb)) (hs.l1 b hb) (fun es e y hy zs f=>hs.l2 b hb es e y hy zs f)
   have e1:(rn fns (m+4) 18).ev [some (zD w t d),some (.tup [tD x,a,b])] [] (.gc (.call 4 [(.var 0),(.idx (.var 1) (.lit (.int 1)))]))=some (.bl (rowB (stepR d) a),[]):=gc_call (n:=15) (ds:=[zD w t d,a]) rfl k1 rfl
   have e2:(rn fns (m+4) 18).ev [some (zD w t d),some (.tup [tD x,a,b])] [] (.gc (.call 5 [(.var 0),(.idx (.var 1) (.lit (.int 2)))]))=some (.bl (outsV w t b),[]):=gc_call (n:=15) (ds:=[zD w t d,b]) rfl k2 rfl
   exact ev_and (n:=18) e1 fun _=>e2
 ·match ds with
  |[]=>rfl
  |[_]=>rfl
  |[_,_]=>rfl
  |a::b::c::r=>
   have:decide ((a::b::c::r).length=2)=false:=by simp
   rw[this]; rfl
theorem fit_ints:∀ (row:Row) (ds:List D),fitB row ds=true→∃ is:List Int,ds=is.map D.int∧is.length=row.length
 |[],ds,h=>by
  rw[fitB,Bool.and_eq_true,decide_eq_true_iff]at h
  have:=List.eq_nil_of_length_eq_zero h.1
  exact⟨[],this,rfl⟩
 |p::row,ds,h=>by
  match ds with
  |[]=>exact absurd h (by simp[fitB])
  |v::ds=>
   have h':(decide (ds.length+1=row.length+1)&&(numB v p.2&&(ds.zip row).all fit))=true:=h
   rw[Bool.and_eq_true,Bool.and_eq_true,decide_eq_true_iff]at h'
   obtain⟨is,e,l⟩:=fit_ints row ds (by rw[fitB,Bool.and_eq_true,decide_eq_true_iff]; exact⟨by omega,h'.2.2⟩)
   cases v with
   |int i=>exact⟨i::is,by rw[e]; rfl,by simp[l]⟩
   |_=>exact absurd h'.2.1 (by simp[numB])
theorem find_word{w t d:Int}{x:List Nat}{p:List Nat×Row}(h:(wR w t d).find? (fun p=>p.1==x)=some p):p∈wR w t d∧p.1=x:=⟨List.mem_of_find?_eq_some h,by simpa using List.find?_some h⟩
theorem row_stake{w t d:Int}{p:List Nat×Row}(h:(wR w t d).find? (fun p=>p.1==wStake)=some p):p.2.length=5:=by
 have:(wR w t d).find? (fun p=>p.1==wStake)=some (wStake,[(tFolk,1,40),(tX,0,w - 1),(tY,0,t - 1),(tX,0,w - 1),(tY,0,t - 1)]):=rfl
 rw[this]at h
 cases h
 rfl
theorem row_pay{w t d:Int}{p:List Nat×Row}(h:(wR w t d).find? (fun p=>p.1==wPay)=some p):p.2.length=3:=by
 have:(wR w t d).find? (fun p=>p.1==wPay)=some (wPay,[(tFolk,1,40),(tFolk,1,40),(tCoins,1,1000000)]):=rfl
 rw[this]at h
 cases h
 rfl
theorem five{is:List Int}(h:is.length=5):∃ a b c d e,is=[a,b,c,d,e]:=match is,h with
 |[a,b,c,d,e],_=>⟨a,b,c,d,e,rfl⟩
theorem three{is:List Int}(h:is.length=3):∃ a b c,is=[a,b,c]:=match is,h with
 |[a,b,c],_=>⟨a,b,c,rfl⟩
theorem agree_ok(m:Nat)(w t d:Int)(x:List Nat)(ds:List D)(p:List Nat×Row)(hp:(wR w t d).find? (fun p=>p.1==x)=some p)(hf:fitB p.2 ds=true):callD fns (m+1) 7 [.tup (tD x::ds)] []=some (.bl (agreeB x ds),[]):=by
 refine call_of (0+20) (F:=f_numbers_agree) rfl rfl rfl ?_
 show exs (stepEx (rn fns m (0+20))) b_numbers_agree [some (.tup (tD x::ds))] []=_
 unfold b_numbers_agree
 rw[xStake,xPay]
 obtain⟨is,rfl,hl⟩:=fit_ints _ _ hf
 have c1:=eqw (c:=callD fns m) (n:=17) (i:=0) (τ:=[some (.tup (tD x::is.map D.int))]) (st:=[]) (x:=x) (y:=wStake) (ds:=is.map D.int) rfl
 have c2:=eqw (c:=callD fns m) (n:=17) (i:=0) (τ:=[some (.tup (tD x::is.map D.int))]) (st:=[]) (x:=x) (y:=wPay) (ds:=is.map D.int) rfl
 by_cases h1:x=wStake
 ·subst h1
  rw[beq_self_eq_true]at c1
  obtain⟨a,b,c,e,f,rfl⟩:=five (hl.trans (row_stake hp))
  refine exs_ite_t (n:=19) c1 (ret_ok (n:=19) ?_)
  show _=some (D.bl (decide (b≤e)&&decide (c≤f)),[])
  exact ev_and (n:=18) (x:=decide (b≤e)) (y:=decide (c≤f)) rfl fun _=>rfl
 ·rw[beq_eq_false_iff_ne.mpr h1]at c1
  refine(exs_ite_f (n:=19) c1).trans ?_
  by_cases h2:x=wPay
  ·subst h2
   rw[beq_self_eq_true]at c2
   obtain⟨a,b,c,rfl⟩:=three (hl.trans (row_pay hp))
   refine exs_ite_t (n:=19) c2 (ret_ok (n:=19) ?_)
   have e1:(rn fns m 18).ev [some (.tup (tD wPay::[a,b,c].map D.int))] [] (.idx (.var 0) (.lit (.int 1)))=some (.int a,[]):=rfl
   have e2:(rn fns m 18).ev [some (.tup (tD wPay::[a,b,c].map D.int))] [] (.idx (.var 0) (.lit (.int 2)))=some (.int b,[]):=rfl
   show(rn fns m (18+1)).ev _ _ _=some (D.bl (!(a==b)),[])
   rw[ev_k]
   simp only[stepEv,e1,e2,Option.bind_some,cmpD,neD,eqD_ii,Option.map_some]
  ·rw[beq_eq_false_iff_ne.mpr h2]at c2
   refine(exs_ite_f (n:=19) c2).trans ?_
   have:agreeB x (is.map D.int)=true:=by rw[agreeB,if_neg h1,if_neg h2]
   rw[this]
   exact ret_ok rfl
theorem has_mk(x:List Nat):∀ L:List (List Nat),(L.map mk).contains (mk x)=L.contains x
 |[]=>rfl
 |y::L=>by
  rw[List.map_cons,List.contains_cons,List.contains_cons,has_mk x L,mk_beq]
theorem find_mk(x:List Nat)(L:List (List Nat×Row)):((L.map fun p=>(mk p.1,D.tup (p.2.map fun x=>tD x.1))).find? fun q=>q.1==mk x)=(L.find? fun p=>p.1==x).map fun p=>(mk p.1,D.tup (p.2.map fun x=>tD x.1)):=by
 rw[List.find?_map]
 congr 2
 funext p
 exact mk_beq p.1 x
theorem has_find(x:List Nat):∀ L:List (List Nat×Row),(L.map (·.1)).contains x=(L.find? fun p=>p.1==x).isSome
 |[]=>rfl
 |y::L=>by
  rw[List.map_cons,List.contains_cons,has_find x L,List.find?_cons]
  by_cases h:y.1=x
  ·rw[h,beq_self_eq_true]; rfl
  ·rw[beq_eq_false_iff_ne.mpr h,beq_eq_false_iff_ne.mpr (Ne.symm h)]; rfl
theorem ix_w{c:CF}{n i:Nat}{τ:Sl}{st:Store}{x:List Nat}{ds:List D}(h:τ[i]?=some (some (.tup (tD x::ds)))):(runK c (n+2)).ev τ st (.idx (.var i) (.lit (.int 0)))=some (tD x,st):=by
 have a:(runK c (n+1)).ev τ st (.var i)=some (.tup (tD x::ds),st):=evV h
 have b:(runK c (n+1)).ev τ st (.lit (.int 0))=some (.int 0,st):=rfl
 rw[ev_k]
 simp only[stepEv,a,b,Option.bind_some,ix0,Option.map_some]
theorem sound_ok(m:Nat)(w t d:Int)(h0:0≤d)(h1:d≤12)(x:List Nat)(ds:List D)(hs:Sm2 ds):callD fns (m+6) 8 [zD w t d,.tup (tD x::ds)] []=some (.bl (soundB w t d x ds),[]):=by
 refine call_of (0+20) (F:=f_sound) rfl rfl rfl ?_
 show exs (stepEx (rn fns (m+5) (0+20))) b_sound [some (zD w t d),some (.tup (tD x::ds))] []=_
 unfold b_sound
 rw[xVein,xJoin,xStake,xWork,xSell,xPart,xGive,xDig,xPay,xDay,xFolk,xX,xY,xFloor,xBelow,xSide,xLine,xCoins]
 have c1:=eqw (c:=callD fns (m+5)) (n:=17) (i:=1) (τ:=[some (zD w t d),some (.tup (tD x::ds))]) (st:=[]) (x:=x) (y:=wVein) (ds:=ds) rfl
 by_cases hv:x=wVein
 ·subst hv
  rw[beq_self_eq_true]at c1
  rw[soundB,if_pos rfl]
  refine exs_ite_t (n:=19) c1 (ret_ok (n:=19) ?_)
  exact sound_vein_ok m w t d h0 h1 wVein ds hs
 rw[beq_eq_false_iff_ne.mpr hv]at c1
 refine(exs_ite_f (n:=19) c1).trans ?_
 rw[soundB,if_neg hv]
 have ix:∀ n,(rn fns (m+5) (n+2)).ev [some (zD w t d),some (.tup (tD x::ds))] [] (.idx (.var 1) (.lit (.int 0)))=some (tD x,[]):=fun n=>ix_w rfl
 have c2:∀ X:Str,(rn fns (m+5) (19+1)).tst [some (zD w t d),some (.tup (tD x::ds))] [] (.gin true X (((wR w t d).map (·.1)).map mk) (.idx (.var 1) (.lit (.int 0))))=some (!((wR w t d).find? fun p=>p.1==x).isSome,[]):=fun X=>by
  have i:(rn fns (m+5) 19).ev [some (zD w t d),some (.tup (tD x::ds))] [] (.idx (.var 1) (.lit (.int 0)))=some (.str (mk x),[]):=ix 17
  rw[tst_k]
  simp only[stepTst,ginR,i,Option.bind_some,has_mk,has_find,truth,Option.map_some,Bool.bne_true]
 cases hf:(wR w t d).find? fun p=>p.1==x with
 |none=>
  have c:=c2 "ASKS"
  rw[hf]at c
  exact exs_ite_t (n:=19) c (ret_ok (n:=19) rfl)
 |some p=>
  have c:=c2 "ASKS"
  rw[hf]at c
  refine(exs_ite_f (n:=19) c).trans ?_
  obtain⟨r,k⟩:=fits_all (m+3) w t d p.2 ds (wR_bT w t d p (find_word hf).1) (fun y hy=>flat_up 8 y (hs.fl y hy)) (by have:=hs.len; omega)
  have e1:(rn fns (m+5) 17).ev [some (zD w t d),some (.tup (tD x::ds))] [] (.gidx "ASKS" (((wR w t d).map (·.1)).map mk) ((wR w t d).map fun p=>D.tup (p.2.map fun x=>tD x.1)) (.idx (.var 1) (.lit (.int 0))))=some (.tup (p.2.map fun x=>tD x.1),[]):=by
   have i:(rn fns (m+5) 16).ev [some (zD w t d),some (.tup (tD x::ds))] [] (.idx (.var 1) (.lit (.int 0)))=some (.str (mk x),[]):=ix 14
   have z:(((wR w t d).map (·.1)).map mk).zip ((wR w t d).map fun p=>D.tup (p.2.map fun x=>tD x.1))=(wR w t d).map fun p=>(mk p.1,D.tup (p.2.map fun x=>tD x.1)):=rfl
   have fm:=find_mk x (wR w t d)
   rw[hf]at fm
   rw[ev_k]
   simp only[stepEv,i,Option.bind_some,z]
   rw[fm]
   rfl
  have e2:(rn fns (m+5) 17).ev [some (zD w t d),some (.tup (tD x::ds))] [] (.gc (.sli (.var 1) (some (.lit (.int 1))) none))=some (.tup ds,[]):=by
   have q:=gc_tcut (c:=callD fns (m+5)) (n:=15) (τ:=[some (zD w t d),some (.tup (tD x::ds))]) (st:=[]) (a:=.var 1) (lo:=some (.lit (.int 1))) (hi:=none) (xs:=tD x::ds) (l:=some ((1:Nat):Int)) (h:=none) rfl rfl rfl (by
    rw[cut_drop _ 1 (by simp)]
    exact flats_nl 8 ds (flats_of hs.fl))
   rw[cut_drop _ 1 (by simp)]at q
   exact q
  have a0:(rn fns (m+5) 17).ev [some (zD w t d),some (.tup (tD x::ds))] [] (.var 0)=some (zD w t d,[]):=rfl
  have k1:=gc_drop (c:=callD fns (m+5)) (n:=16) (τ:=[some (zD w t d),some (.tup (tD x::ds))]) (f:=2) (es:=[(.var 0),.gidx "ASKS" (((wR w t d).map (·.1)).map mk) ((wR w t d).map fun p=>D.tup (p.2.map fun x=>tD x.1)) (.idx (.var 1) (.lit (.int 0))),.gc (.sli (.var 1) (some (.lit (.int 1))) none)]) (by
   simp only[evs]
   rw[a0]
   simp only[Option.bind_some]
   rw[e1]
   simp only[Option.bind_some]
   rw[e2]
   rfl) k rfl
  refine ret_ok ?_
  show _=some (D.bl (fitB p.2 ds&&agreeB x ds),[])
  refine ev_and (n:=19) k1 fun hfit=>?_
  exact gc_call (n:=16) (ds:=[.tup (tD x::ds)]) rfl (agree_ok (m+4) w t d x ds p hf hfit) rfl
theorem tst_not{c:CF}{n:Nat}{τ:Sl}{st:Store}{a:E}{x:Bool}(ha:(runK c n).tst τ st a=some (x,st)):(runK c (n+1)).tst τ st (.not a)=some (!x,st):=by
 rw[tst_k]
 simp only[stepTst,ha,Option.map_some]
theorem tst_gc{c:CF}{n:Nat}{τ:Sl}{st:Store}{a:E}{x:Bool}(ha:(runK c n).ev τ st (.gc a)=some (.bl x,st)):(runK c (n+1)).tst τ st (.gc a)=some (x,st):=by
 rw[tst_k]
 simp only[stepTst,ha,Option.bind_some,truth,Option.map_some]
theorem tst_isi{c:CF}{n:Nat}{τ:Sl}{st:Store}{a:E}{ts:List Ty}{k x:Bool}(ha:(runK c n).ev τ st (.isi a ts k)=some (.bl x,st)):(runK c (n+1)).tst τ st (.isi a ts k)=some (x,st):=by
 rw[tst_k]
 simp only[stepTst,ha,Option.bind_some,truth,Option.map_some]
theorem ev_and'{c:CF}{n:Nat}{τ:Sl}{st:Store}{a b:E}{x y:Bool}(ha:(runK c n).ev τ st a=some (.bl x,st))(hb:x=true→(runK c n).ev τ st b=some (.bl y,st)):(runK c (n+1)).ev τ st (.and a b)=some (.bl (x&&y),st):=by
 rw[ev_k]
 simp only[stepEv,ha,Option.bind_some]
 cases x with
 |true=>rw[hb rfl,Bool.true_and]
 |false=>rw[Bool.false_and]
theorem num_ok(m:Nat)(st:Store)(v:D)(lo hi:Int)(hv:flat 9 v=true):callD fns (m+1) 22 [v,.int lo,.int hi] st=some (.bl (numB v (lo,hi)),st):=by
 refine call_of (0+20) (F:=f_law_num) rfl rfl rfl ?_
 show exs (stepEx (rn fns m (0+20))) b_law_num [some v,some (.int lo),some (.int hi)] st=_
 unfold b_law_num
 cases v with
 |int v=>
  refine ret_ok ?_
  have a:(rn fns m 17).ev [some (.int v),some (.int lo),some (.int hi)] st (.var 0)=some (.int v,st):=rfl
  have b:(rn fns m 17).ev [some (.int v),some (.int lo),some (.int hi)] st (.var 1)=some (.int lo,st):=rfl
  have x:(rn fns m 17).ev [some (.int v),some (.int lo),some (.int hi)] st (.var 2)=some (.int hi,st):=rfl
  refine(ev_and' (n:=19) (x:=true) (y:=numB (.int v) (lo,hi)) rfl fun _=>(ev_and' (n:=18) (x:=true) (y:=numB (.int v) (lo,hi)) rfl fun _=>?_).trans (by rw[Bool.true_and])).trans (by rw[Bool.true_and])
  show(rn fns m (17+1)).ev _ _ _=_
  rw[ev_k]
  simp only[stepEv,a,b,x,Option.bind_some,cmpD,numB]
  by_cases h:lo≤v
  ·simp only[decide_eq_true h,if_true,Option.map_some,Bool.true_and]
  ·simp only[decide_eq_false h,Bool.false_eq_true,if_false,Option.map_some,Bool.false_and]
 |non=>rfl
 |bl b=>rfl
 |str z=>rfl
 |tup ds=>rfl
 |lst ds=>cases hv
 |loc l=>cases hv
theorem loop_chk{f:Sl→Store→D→Option (Out×Store)}{n:Nat}{st:Store}(P:Nat→Bool)(I:Sl→Prop)(v:D)
  (ht:∀ (i:Nat) τ,i<n→I τ→P i=true→∃ τ',f τ st (.int (0+(i:Int)))=some (.nx τ',st)∧I τ')
  (hf:∀ (i:Nat) τ,i<n→I τ→P i=false→f τ st (.int (0+(i:Int)))=some (.rt v,st)) :
  ∀ (k i:Nat) (τ:Sl),i+k=n→I τ→(∀ j,j<i→P j=true)→
   ((List.range n).all P=true∧∃ τ',loop (.rng 0 n) f (k+1) i τ st=some (.nx τ',st)∧I τ')∨((List.range n).all P=false∧loop (.rng 0 n) f (k+1) i τ st=some (.rt v,st))
 |0,i,τ,h,p,q=>by
  have:i=n:=by omega
  subst this
  refine .inl ⟨?_,τ,by simp[loop,Src.at],p⟩
  rw[List.all_eq_true]
  exact fun j hj=>q j (List.mem_range.mp hj)
 |k+1,i,τ,h,p,q=>by
  have hi:i<n:=by omega
  cases hP:P i with
  |true=>
   obtain⟨τ',e,p'⟩:=ht i τ hi p hP
   have:=loop_chk P I v ht hf k (i+1) τ' (by omega) p' (fun j hj=>by
    by_cases hh:j=i
    ·rw[hh]; exact hP
    ·exact q j (by omega))
   have l:loop (.rng 0 n) f (k+1+1) i τ st=loop (.rng 0 n) f (k+1) (i+1) τ' st:=by
    rw[loop]
    simp only[Src.at,hi,if_true,Option.bind_some,e]
   rw[l]
   exact this
  |false=>
   refine .inr ⟨?_,?_⟩
   ·rw[List.all_eq_false]
    exact⟨i,List.mem_range.mpr hi,by rw[hP]; simp⟩
   ·rw[loop]
    simp only[Src.at,hi,if_true,Option.bind_some,hf i τ hi p hP]
theorem for_chk{c:CF}{N n i:Nat}{τ:Sl}{st:Store}{it:E}{body b:List S}(P:Nat→Bool)(I:Sl→Prop)(v:D)(hs:src (runK c N) τ st it=some (.rng 0 n,st))(h0:I τ)
  (ht:∀ (j:Nat) τ,j<n→I τ→P j=true→∃ τ1 τ',setT (.var i) (.int (0+(j:Int))) τ=some τ1∧(runK c N).ex τ1 st body=some (.nx τ',st)∧I τ')
  (hf:∀ (j:Nat) τ,j<n→I τ→P j=false→∃ τ1,setT (.var i) (.int (0+(j:Int))) τ=some τ1∧(runK c N).ex τ1 st body=some (.rt v,st)) :
  ((List.range n).all P=true∧∃ τ',I τ'∧exs (stepEx (runK c N)) (.forr (.var i) it body::b) τ st=exs (stepEx (runK c N)) b τ' st)∨((List.range n).all P=false∧exs (stepEx (runK c N)) (.forr (.var i) it body::b) τ st=some (.rt v,st)):=by
 have key:=loop_chk (f:=fun τ st d=>(setT (.var i) d τ).bind fun τ'=>(runK c N).ex τ' st body) (n:=n) (st:=st) P I v (fun j τ hj hI hP=>by
   obtain⟨τ1,τ',e1,e2,h⟩:=ht j τ hj hI hP
   exact⟨τ',by rw[e1]; exact e2,h⟩) (fun j τ hj hI hP=>by
   obtain⟨τ1,e1,e2⟩:=hf j τ hj hI hP
   rw[e1]; exact e2) n 0 τ (by omega) h0 (fun j hj=>by omega)
 have st':stepEx (runK c N) τ st (.forr (.var i) it body)=loop (.rng 0 n) (fun τ st d=>(setT (.var i) d τ).bind fun τ'=>(runK c N).ex τ' st body) (n+1) 0 τ st:=by
  simp only[stepEx,hs,Option.bind_some,Src.size]
 rcases key with⟨a,τ',e,h⟩|⟨a,e⟩
 ·exact .inl ⟨a,τ',h,exs_cons (st'.trans e)⟩
 ·exact .inr ⟨a,exs_ret (st'.trans e)⟩
noncomputable def rowsZ:Nat→List (List Nat×Row)→List (D×D)
 |_,[]=>[]
 |n,p::L=>(tD p.1,.loc n)::rowsZ (n+1) L
noncomputable def bdL(p:List Nat×Row):List D:=p.2.map fun x=>pD x.2
noncomputable def bS(w t d:Int)(k:Nat):Store:=.dic (rowsZ 1 ((wR w t d).take k))::((wR w t d).take k).map fun p=>.lst true (bdL p)
theorem dget_rows(x:List Nat):∀ (L:List (List Nat×Row)) (n:Nat),(L.find? (fun p=>p.1==x)=none∧dget (rowsZ n L) (tD x)=none)∨∃ p i,L.find? (fun p=>p.1==x)=some p∧L[i]?=some p∧dget (rowsZ n L) (tD x)=some (.loc (n+i))
 |[],n=>.inl ⟨rfl,rfl⟩
 |q::L,n=>by
  by_cases h:q.1=x
  ·refine .inr ⟨q,0,?_,rfl,?_⟩
   ·rw[List.find?_cons_of_pos (by simpa using h)]
   ·have e:eqT (tD q.1) (tD x)=true:=by rw[eq_tD]; simpa using h
    unfold dget rowsZ
    rw[List.find?_cons_of_pos (by exact e)]; rfl
  ·have f:List.find? (fun p=>p.1==x) (q::L)=List.find? (fun p=>p.1==x) L:=List.find?_cons_of_neg (by simpa using h)
   have e:eqT (tD q.1) (tD x)=false:=by rw[eq_tD]; simpa using h
   have g:dget (rowsZ n (q::L)) (tD x)=dget (rowsZ (n+1) L) (tD x):=by
    unfold dget
    rw[rowsZ,List.find?_cons_of_neg (by show ¬ eqT (tD q.1) (tD x)=true; rw[e]; simp)]
   rw[f,g]
   rcases dget_rows x L (n+1) with h|⟨p,i,h1,h2,h3⟩
   ·exact .inl h
   ·exact .inr ⟨p,i+1,h1,by simpa using h2,by rw[h3]; congr 2; omega⟩
noncomputable abbrev bnT(w t d:Int)(x:List Nat)(r:Option D):Sl:=[some (zD w t d),some (tD x),some (pD (1,400)),some (pD (1,40)),some (pD (1,1000000)),some (pD (0,w - 1)),some (pD (0,t - 1)),r]
theorem bounds_ok(m:Nat)(w t d:Int)(x:List Nat):∃ v,callD fns (m+1) 23 [zD w t d,tD x] []=some (v,bS w t d 8)∧dget (rowsZ 1 (wR w t d)) (tD x)=(if isNon v then none else some v)∧(isNon v=true→v=.non):=by
 obtain⟨v,hv1,hv2,hv3⟩:∃ v,(dget (rowsZ 1 (wR w t d)) (tD x)).getD .non=v∧dget (rowsZ 1 (wR w t d)) (tD x)=(if isNon v then none else some v)∧(isNon v=true→v=.non):=by
  rcases dget_rows x (wR w t d) 1 with⟨_,h⟩|⟨p,i,_,_,h⟩
  ·exact⟨.non,by rw[h]; rfl,by rw[h]; rfl,fun _=>rfl⟩
  ·exact⟨.loc (1+i),by rw[h]; rfl,by rw[h]; rfl,fun h=>by cases h⟩
 refine⟨v,call_of (0+20) (F:=f_law_bounds) rfl rfl rfl ?_,hv2,hv3⟩
 show exs (stepEx (rn fns m (0+20))) b_law_bounds [some (zD w t d),some (tD x),none,none,none,none,none,none] []=_
 unfold b_law_bounds
 rw[xJoin,xStake,xWork,xSell,xPart,xGive,xDig,xPay]
 rw[exs_cons (τ':=[some (zD w t d),some (tD x),some (pD (1,400)),none,none,none,none,none]) (s':=[]) rfl]
 rw[exs_cons (τ':=[some (zD w t d),some (tD x),some (pD (1,400)),some (pD (1,40)),none,none,none,none]) (s':=[]) rfl]
 rw[exs_cons (τ':=[some (zD w t d),some (tD x),some (pD (1,400)),some (pD (1,40)),some (pD (1,1000000)),none,none,none]) (s':=[]) rfl]
 rw[exs_cons (τ':=[some (zD w t d),some (tD x),some (pD (1,400)),some (pD (1,40)),some (pD (1,1000000)),some (pD (0,w - 1)),none,none]) (s':=[]) rfl]
 rw[exs_cons (τ':=bnT w t d x none) (s':=[]) rfl]
 rw[exs_cons (τ':=bnT w t d x (some (.loc 0))) (s':=bS w t d 3) rfl]
 rw[exs_cons (τ':=bnT w t d x (some (.loc 0))) (s':=bS w t d 4) rfl]
 rw[exs_cons (τ':=bnT w t d x (some (.loc 0))) (s':=bS w t d 5) rfl]
 rw[exs_cons (τ':=bnT w t d x (some (.loc 0))) (s':=bS w t d 6) rfl]
 rw[exs_cons (τ':=bnT w t d x (some (.loc 0))) (s':=bS w t d 7) rfl]
 rw[exs_cons (τ':=bnT w t d x (some (.loc 0))) (s':=bS w t d 8) rfl]
 refine ret_ok ?_
 have v7:(rn fns m 19).ev (bnT w t d x (some (.loc 0))) (bS w t d 8) (.var 7)=some (.loc 0,bS w t d 8):=rfl
 have v1:(rn fns m 19).ev (bnT w t d x (some (.loc 0))) (bS w t d 8) (.var 1)=some (tD x,bS w t d 8):=rfl
 have di:dicAt (bS w t d 8) 0=some (rowsZ 1 (wR w t d)):=rfl
 have ik:isKey (tD x)=true:=rfl
 show(rn fns m (19+1)).ev _ _ _=_
 rw[ev_k]
 simp only[stepEv,v7,v1,Option.bind_some,di,ik,if_true,hv1]
noncomputable def bdD(o:Option (List Nat×Row)):D:=match o with
 |none=>.non
 |some p=>.lst (bdL p)
theorem gc_bnd(m n:Nat)(w t d:Int)(x:List Nat)(τ:Sl)(es:List E)(hes:evs ((rn fns (m+1) (n+1)).ev τ) es []=some ([zD w t d,tD x],[])):(rn fns (m+1) (n+3)).ev τ [] (.gc (.call 23 es))=some (bdD ((wR w t d).find? fun p=>p.1==x),[]):=by
 obtain⟨v,e,h2,h3⟩:=bounds_ok m w t d x
 have c:(rn fns (m+1) (n+2)).ev τ [] (.call 23 es)=some (v,bS w t d 8):=by
  show(evs ((rn fns (m+1) (n+1)).ev τ) es []).bind _=_
  rw[hes]
  exact e
 have g:gcD [] (v,bS w t d 8)=(bdD ((wR w t d).find? fun p=>p.1==x),[]):=by
  rcases dget_rows x (wR w t d) 1 with⟨h4,h⟩|⟨p,i,h4,h5,h⟩
  ·rw[h]at h2
   cases hn:isNon v with
   |true=>
    rw[h3 hn,h4]
    exact gc_app (st:=[]) rfl
   |false=>rw[hn]at h2; cases h2
  ·rw[h]at h2
   cases hn:isNon v with
   |true=>rw[hn]at h2; cases h2
   |false=>
    rw[hn]at h2
    cases h2
    rw[h4]
    have hk:(bS w t d 8)[1+i]?=some (.lst true (bdL p)):=by
     show(Cell.dic (rowsZ 1 (wR w t d))::(wR w t d).map fun p=>Cell.lst true (bdL p))[1+i]?=_
     rw[Nat.add_comm,List.getElem?_cons_succ,List.getElem?_map,h5]
     rfl
    have:=gc_new' (st:=[]) (r:=bS w t d 8) (k:=1+i) (ds:=bdL p) (noLocs_map fun _ _=>rfl) hk
    rw[show([]:Store).length+(1+i)=1+i from Nat.zero_add _]at this
    exact this
 rw[ev_k]
 simp only[stepEv,c,Option.map_some,g]
theorem ix_n(S:Store)(ds:List D)(k:Nat)(v:D)(h:ds[k]?=some v):idxD S (.tup ds) (.int (k:Int))=some v:=by
 have hk:k<ds.length:=(List.getElem?_eq_some_iff.mp h).1
 have e:ixN ds.length (k:Int)=some k:=by
  unfold ixN
  rw[if_pos (by omega),if_pos (by omega)]
  rfl
 simp only[idxD,atI,e,Option.bind_some,h]
theorem ixl_n(S:Store)(ds:List D)(k:Nat)(v:D)(h:ds[k]?=some v):idxD S (.lst ds) (.int (k:Int))=some v:=by
 have hk:k<ds.length:=(List.getElem?_eq_some_iff.mp h).1
 have e:ixN ds.length (k:Int)=some k:=by
  unfold ixN
  rw[if_pos (by omega),if_pos (by omega)]
  rfl
 simp only[idxD,seqAt,Option.bind_some,atI,e,h]
noncomputable abbrev sT(w t d:Int)(x:List Nat)(ds:List D)(p:Row)(a:Option D):Sl:=[some (zD w t d),some (.tup (tD x::ds)),some (.lst (p.map fun x=>pD x.2)),a]
noncomputable def sndB:List S:=[.ite (.not (.gc (.call 22 [(.idx (.var 1) (.bin .Add (.var 3) (.lit (.int 1)))),(.idx (.idx (.var 2) (.var 3)) (.lit (.int 0))),(.idx (.idx (.var 2) (.var 3)) (.lit (.int 1)))]))) [.ret (.lit (.bl false))] []]
noncomputable def fitN(ds:List D)(p:Row)(k:Nat):Bool:=match ds[k]?,p[k]? with
 |some v,some q=>numB v q.2
 |_,_=>false
theorem fitN_all:∀ (p:Row) (ds:List D),ds.length=p.length→(List.range p.length).all (fitN ds p)=(ds.zip p).all fit
 |[],ds,h=>by
  rw[List.zip_nil_right]; rfl
 |q::p,v::ds,h=>by
  rw[List.length_cons,List.range_succ_eq_map,List.all_cons,List.all_map,List.zip_cons_cons,List.all_cons,← fitN_all p ds (by simpa using h)]
  rfl
theorem snd_tst(m n:Nat)(w t d:Int)(x:List Nat)(ds:List D)(p:Row)(k:Nat)(v:D)(q:List Nat×Int×Int)(hv:ds[k]?=some v)(hq:p[k]?=some q)(hfl:flat 9 v=true):(rn fns (m+1) (n+9)).tst (sT w t d x ds p (some (.int (0+(k:Int))))) [] (.not (.gc (.call 22 [(.idx (.var 1) (.bin .Add (.var 3) (.lit (.int 1)))),(.idx (.idx (.var 2) (.var 3)) (.lit (.int 0))),(.idx (.idx (.var 2) (.var 3)) (.lit (.int 1)))])))=some (!numB v q.2,[]):=by
 have e1:(rn fns (m+1) (n+5)).ev (sT w t d x ds p (some (.int (0+(k:Int))))) [] (.idx (.var 1) (.bin .Add (.var 3) (.lit (.int 1))))=some (v,[]):=by
  refine evX (n:=n+4) (x:=.tup (tD x::ds)) (y:=.int ((k+1:Nat):Int)) rfl ?_ (ix_n _ _ _ _ (by rw[List.getElem?_cons_succ]; exact hv))
  have e:(0+(k:Int)+1)=((k+1:Nat):Int):=by omega
  have b:(rn fns (m+1) (n+4)).ev (sT w t d x ds p (some (.int (0+(k:Int))))) [] (.bin .Add (.var 3) (.lit (.int 1)))=some (.int (0+(k:Int)+1),[]):=rfl
  rw[b,e]
 have e2:(rn fns (m+1) (n+4)).ev (sT w t d x ds p (some (.int (0+(k:Int))))) [] (.idx (.var 2) (.var 3))=some (pD q.2,[]):=by
  refine evX (n:=n+3) (x:=.lst (p.map fun x=>pD x.2)) (y:=.int (k:Int)) rfl ?_ (ixl_n _ _ _ _ (by rw[List.getElem?_map,hq]; rfl))
  have b:(rn fns (m+1) (n+3)).ev (sT w t d x ds p (some (.int (0+(k:Int))))) [] (.var 3)=some (.int (0+(k:Int)),[]):=rfl
  rw[b,Int.zero_add]
 have e3:(rn fns (m+1) (n+5)).ev (sT w t d x ds p (some (.int (0+(k:Int))))) [] (.idx (.idx (.var 2) (.var 3)) (.lit (.int 0)))=some (.int q.2.1,[]):=evX (n:=n+4) e2 rfl rfl
 have e4:(rn fns (m+1) (n+5)).ev (sT w t d x ds p (some (.int (0+(k:Int))))) [] (.idx (.idx (.var 2) (.var 3)) (.lit (.int 1)))=some (.int q.2.2,[]):=evX (n:=n+4) e2 rfl rfl
 have g:=gc_call (c:=callD fns (m+1)) (n:=n+4) (τ:=sT w t d x ds p (some (.int (0+(k:Int))))) (st:=[]) (f:=22) (es:=[(.idx (.var 1) (.bin .Add (.var 3) (.lit (.int 1)))),(.idx (.idx (.var 2) (.var 3)) (.lit (.int 0))),(.idx (.idx (.var 2) (.var 3)) (.lit (.int 1)))]) (ds:=[v,.int q.2.1,.int q.2.2]) (by
  simp only[evs]
  rw[e1]
  simp only[Option.bind_some]
  rw[e3]
  simp only[Option.bind_some]
  rw[e4]
  rfl) (num_ok m [] v q.2.1 q.2.2 hfl) rfl
 exact tst_not (n:=n+8) (tst_gc (n:=n+7) g)
noncomputable def chkV(R:D→Bool)(prev cs:List D)(k:Nat):Bool:=match cs[k]? with
 |some c=>!((prev++cs.take k).any fun y=>eqT y c)&&R c
 |none=>false
theorem chk_all(R:D→Bool):∀ (cs prev:List D),(List.range cs.length).all (chkV R prev cs)=(cs.all R&&uniqB prev cs)
 |[],prev=>rfl
 |c::cs,prev=>by
  have ih:=chk_all R cs (prev++[c])
  have e:chkV R prev (c::cs)∘Nat.succ=chkV R (prev++[c]) cs:=by
   funext k
   show chkV R prev (c::cs) (k+1)=_
   unfold chkV
   rw[List.getElem?_cons_succ,List.take_succ_cons,List.append_assoc,List.singleton_append]
  have e0:chkV R prev (c::cs) 0=(!(prev.any fun y=>eqT y c)&&R c):=by
   unfold chkV
   rw[List.getElem?_cons_zero,List.take_zero,List.append_nil]
  rw[List.length_cons,List.range_succ_eq_map,List.all_cons,List.all_map,e,ih,e0,List.all_cons,uniqB]
  cases R c<;>cases (prev.any fun y=>eqT y c)<;>simp
noncomputable abbrev vT(w t d:Int)(x:List Nat)(ss cs:List D)(a b:Option D):Sl:=[some (zD w t d),some (.tup [tD x,.tup ss,.tup cs]),a,b]
noncomputable def veinL:List S:=[.set (.var 3) (.idx (.idx (.var 1) (.lit (.int 2))) (.var 2)),.ite (.or (.not (.isi (.var 3) [.tup] false)) (.or (.cmp .NotEq (.bcall .len [(.var 3)]) (.lit (.int 2))) (.cmp .In (.var 3) (.gc (.sli (.idx (.var 1) (.lit (.int 2))) none (some (.var 2))))))) [.ret (.lit (.bl false))] [],.ite (.or (.not (.gc (.call 22 [(.idx (.var 3) (.lit (.int 0))),(.lit (.int 0)),(.bin .Sub (.idx (.var 0) (.lit (.int 0))) (.lit (.int 1)))]))) (.not (.gc (.call 22 [(.idx (.var 3) (.lit (.int 1))),(.lit (.int 0)),(.bin .Sub (.idx (.var 0) (.lit (.int 1))) (.lit (.int 1)))])))) [.ret (.lit (.bl false))] []]
theorem vein_turn(m:Nat)(w t d:Int)(x:List Nat)(ss cs:List D)(hc:∀ c∈cs,flat 8 c=true)(k:Nat)(c:D)(hk:cs[k]?=some c)(b:Option D):
  (rn fns (m+1) (0+20)).ex (vT w t d x ss cs (some (.int (0+(k:Int)))) b) [] veinL=if chkV (rowB (cellR w t)) [] cs k then some (.nx (vT w t d x ss cs (some (.int (0+(k:Int)))) (some c)),[]) else some (.rt (.bl false),[]):=by
 have hfl:flat 8 c=true:=hc c (List.mem_of_getElem? hk)
 have hfl9:=flat_up 8 c hfl
 have hlt:k<cs.length:=(List.getElem?_eq_some_iff.mp hk).1
 have kk:(0+(k:Int))=(k:Int):=Int.zero_add _
 have ck:chkV (rowB (cellR w t)) [] cs k=(!((cs.take k).any fun y=>eqT y c)&&rowB (cellR w t) c):=by
  unfold chkV
  rw[hk,List.nil_append]
 rw[ck,kk]
 show exs (stepEx (rn fns (m+1) 19)) veinL (vT w t d x ss cs (some (.int (k:Int))) b) []=_
 unfold veinL
 have o2:∀ (n:Nat) (b:Option D),(rn fns (m+1) (n+2)).ev (vT w t d x ss cs (some (.int (k:Int))) b) [] (.idx (.var 1) (.lit (.int 2)))=some (.tup cs,[]):=fun n b=>rfl
 have v2:∀ (n:Nat) (b:Option D),(rn fns (m+1) (n+1)).ev (vT w t d x ss cs (some (.int (k:Int))) b) [] (.var 2)=some (.int (k:Int),[]):=fun n b=>rfl
 rw[exs_cons (τ':=vT w t d x ss cs (some (.int (k:Int))) (some c)) (s':=[]) (stS (evX (n:=18) (o2 16 b) (v2 17 b) (ix_n _ _ _ _ hk)) rfl)]
 have is:=isi_t (c:=callD fns (m+1)) (n:=14) (i:=3) (τ:=vT w t d x ss cs (some (.int (k:Int))) (some c)) (st:=[]) rfl hfl9
 have c1:(rn fns (m+1) 18).tst (vT w t d x ss cs (some (.int (k:Int))) (some c)) [] (.not (.isi (.var 3) [.tup] false))=some (!isT c,[]):=tst_not (n:=17) (tst_isi (n:=16) is)
 cases c with
 |tup es=>
  have l:(rn fns (m+1) 16).ev (vT w t d x ss cs (some (.int (k:Int))) (some (.tup es))) [] (.bcall .len [(.var 3)])=some (.int es.length,[]):=len_tup (n:=14) rfl
  have l2:(rn fns (m+1) 16).ev (vT w t d x ss cs (some (.int (k:Int))) (some (.tup es))) [] (.lit (.int 2))=some (.int 2,[]):=rfl
  have c2:(rn fns (m+1) 17).tst (vT w t d x ss cs (some (.int (k:Int))) (some (.tup es))) [] (.cmp .NotEq (.bcall .len [(.var 3)]) (.lit (.int 2)))=some (!decide (es.length=2),[]):=by
   rw[tst_k]
   simp only[stepTst,l,l2,Option.bind_some,cmpD,neD,eqD_ii,Option.map_some]
   congr 3
   rw[Bool.eq_iff_iff,beq_iff_eq,decide_eq_true_iff]
   omega
  have sl:(rn fns (m+1) 16).ev (vT w t d x ss cs (some (.int (k:Int))) (some (.tup es))) [] (.gc (.sli (.idx (.var 1) (.lit (.int 2))) none (some (.var 2))))=some (.tup (cs.take k),[]):=by
   have q:=gc_tcut (c:=callD fns (m+1)) (n:=14) (τ:=vT w t d x ss cs (some (.int (k:Int))) (some (.tup es))) (st:=[]) (a:=.idx (.var 1) (.lit (.int 2))) (lo:=none) (hi:=some (.var 2)) (xs:=cs) (l:=none) (h:=some (k:Int)) rfl rfl rfl (by
    rw[cut_take _ k (by omega)]
    exact flats_nl 8 _ (flats_of fun y hy=>hc y (List.mem_of_mem_take hy)))
   rw[cut_take _ k (by omega)]at q
   exact q
  have v3:(rn fns (m+1) 16).ev (vT w t d x ss cs (some (.int (k:Int))) (some (.tup es))) [] (.var 3)=some (.tup es,[]):=rfl
  have ind:inD [] (.tup es) (.tup (cs.take k))=some ((cs.take k).any fun y=>eqT y (.tup es)):=by
   simp only[inD]
   rw[if_pos]
   rw[Bool.and_eq_true]
   exact⟨hfl9,flats_of fun y hy=>flat_up 8 y (hc y (List.mem_of_mem_take hy))⟩
  have c3:(rn fns (m+1) 17).tst (vT w t d x ss cs (some (.int (k:Int))) (some (.tup es))) [] (.cmp .In (.var 3) (.gc (.sli (.idx (.var 1) (.lit (.int 2))) none (some (.var 2)))))=some ((cs.take k).any fun y=>eqT y (.tup es),[]):=by
   rw[tst_k]
   simp only[stepTst,v3,sl,Option.bind_some,cmpD,ind,Option.map_some]
  have cc:(rn fns (m+1) 19).tst (vT w t d x ss cs (some (.int (k:Int))) (some (.tup es))) [] (.or (.not (.isi (.var 3) [.tup] false)) (.or (.cmp .NotEq (.bcall .len [(.var 3)]) (.lit (.int 2))) (.cmp .In (.var 3) (.gc (.sli (.idx (.var 1) (.lit (.int 2))) none (some (.var 2)))))))=some (!decide (es.length=2)||(cs.take k).any fun y=>eqT y (.tup es),[]):=
   (tst_or (n:=18) c1 fun _=>tst_or (n:=17) c2 fun _=>c3).trans (by rw[show(!isT (.tup es))=false from rfl,Bool.false_or])
  by_cases h2:es.length=2
  ·rw[decide_eq_true h2,Bool.not_true,Bool.false_or]at cc
   cases hin:(cs.take k).any fun y=>eqT y (.tup es) with
   |true=>
    rw[hin]at cc
    rw[Bool.not_true,Bool.false_and,if_neg Bool.false_ne_true]
    exact exs_ite_t (n:=18) cc (ret_ok (n:=18) rfl)
   |false=>
    rw[hin]at cc
    rw[Bool.not_false,Bool.true_and]
    refine(exs_ite_f (n:=18) cc).trans ?_
    match es,h2,hfl9 with
    |[e1,e2],_,hfl9=>
     have f1:flat 9 e1=true:=tup_fl hfl9 e1 List.mem_cons_self
     have f2:flat 9 e2=true:=tup_fl hfl9 e2 (List.mem_cons_of_mem _ List.mem_cons_self)
     have g1:=gc_call (c:=callD fns (m+1)) (n:=13) (τ:=vT w t d x ss cs (some (.int (k:Int))) (some (.tup [e1,e2]))) (st:=[]) (f:=22) (es:=[(.idx (.var 3) (.lit (.int 0))),(.lit (.int 0)),(.bin .Sub (.idx (.var 0) (.lit (.int 0))) (.lit (.int 1)))]) (ds:=[e1,.int 0,.int (w - 1)]) rfl (num_ok m [] e1 0 (w - 1) f1) rfl
     have g2:=gc_call (c:=callD fns (m+1)) (n:=13) (τ:=vT w t d x ss cs (some (.int (k:Int))) (some (.tup [e1,e2]))) (st:=[]) (f:=22) (es:=[(.idx (.var 3) (.lit (.int 1))),(.lit (.int 0)),(.bin .Sub (.idx (.var 0) (.lit (.int 1))) (.lit (.int 1)))]) (ds:=[e2,.int 0,.int (t - 1)]) rfl (num_ok m [] e2 0 (t - 1) f2) rfl
     have c4:=tst_or (n:=18) (tst_not (n:=17) (tst_gc (n:=16) g1)) fun _=>tst_not (n:=17) (tst_gc (n:=16) g2)
     have rb:rowB (cellR w t) (.tup [e1,e2])=(numB e1 (0,w - 1)&&(numB e2 (0,t - 1)&&true)):=rfl
     rw[rb,Bool.and_true]
     cases h3:numB e1 (0,w - 1)&&numB e2 (0,t - 1) with
     |true=>
      rw[← Bool.not_and,h3]at c4
      rw[if_pos rfl]
      exact(exs_ite_f (n:=18) c4).trans rfl
     |false=>
      rw[← Bool.not_and,h3]at c4
      rw[if_neg Bool.false_ne_true]
      exact exs_ite_t (n:=18) c4 (ret_ok (n:=18) rfl)
  ·rw[decide_eq_false h2,Bool.not_false,Bool.true_or]at cc
   have rb:rowB (cellR w t) (.tup es)=false:=by
    show fitB (cellR w t) es=false
    unfold fitB
    rw[decide_eq_false (by exact h2),Bool.false_and]
   rw[rb,Bool.and_false,if_neg Bool.false_ne_true]
   exact exs_ite_t (n:=18) cc (ret_ok (n:=18) rfl)
 |lst ds=>cases hfl
 |loc l=>cases hfl
 |_=>
  rw[show ∀ q:Bool,(q&&rowB (cellR w t) _)=(q&&false) from fun q=>rfl,Bool.and_false,if_neg Bool.false_ne_true]
  refine exs_ite_t (n:=18) ((tst_or (n:=18) (y:=true) c1 fun h=>by cases h).trans rfl) (ret_ok (n:=18) rfl)
theorem steps_fit(d:Int)(ss:List D)(h:ss.length=d.toNat):(ss.zip (stepR d)).all fit=ss.all fun s=>numB s (0,4):=by
 unfold stepR
 rw[← h]
 clear h
 induction ss with
 |nil=>rfl
 |cons s ss ih=>
  rw[List.length_cons,List.replicate_succ,List.zip_cons_cons,List.all_cons,List.all_cons,ih]
  rfl
theorem src_idx1{c:CF}{n:Nat}{τ:Sl}{st:Store}{a b:E}{ds:List D}(h:(runK c n).ev τ st (.idx a b)=some (.tup ds,st)):src (runK c n) τ st (.idx a b)=some (.tup ds,st):=by
 show((runK c n).ev τ st (.idx a b)).bind _=_
 rw[h]
 rfl
theorem isi_e{c:CF}{n:Nat}{τ:Sl}{st:Store}{e:E}{v:D}(a:(runK c n).ev τ st e=some (v,st))(hv:flat 9 v=true):(runK c (n+1)).ev τ st (.isi e [.tup] false)=some (.bl (isT v),st):=by
 rw[ev_k]
 simp only[stepEv,a,Option.bind_some]
 cases v with
 |int v=>rfl
 |non=>rfl
 |bl b=>rfl
 |str z=>rfl
 |tup ds=>rfl
 |lst ds=>cases hv
 |loc l=>cases hv
theorem len_e{c:CF}{n:Nat}{τ:Sl}{st:Store}{e:E}{ds:List D}(a:(runK c n).ev τ st e=some (.tup ds,st)):(runK c (n+1)).ev τ st (.bcall .len [e])=some (.int ds.length,st):=by
 rw[ev_k]
 simp only[stepEv,evs,a,Option.bind_some,bfun,bLen]
theorem cmp_ne{c:CF}{n:Nat}{τ:Sl}{st:Store}{a b:E}{i j:Int}(ha:(runK c n).ev τ st a=some (.int i,st))(hb:(runK c n).ev τ st b=some (.int j,st)):(runK c (n+1)).tst τ st (.cmp .NotEq a b)=some (!(i==j),st):=by
 rw[tst_k]
 simp only[stepTst,ha,hb,Option.bind_some,cmpD,neD,eqD_ii,Option.map_some]
theorem len_in{c:CF}{n:Nat}{τ:Sl}{st:Store}{e:E}{k:Nat}(l:(runK c n).ev τ st e=some (.int (k:Int),st))(h1:1≤n):(runK c (n+2)).tst τ st (.not (.cmp2 .LtE .LtE (.lit (.int 1)) e (.lit (.int 16))))=some (!(decide (1≤k)&&decide (k≤16)),st):=by
 obtain⟨n,rfl⟩:∃ q,n=q+1:=⟨n - 1,by omega⟩
 have a:(runK c (n+1)).ev τ st (.lit (.int 1))=some (.int 1,st):=rfl
 have b:(runK c (n+1)).ev τ st (.lit (.int 16))=some (.int 16,st):=rfl
 rw[tst_k]
 simp only[stepTst]
 rw[tst_k]
 simp only[stepTst,l,a,b,Option.bind_some,cmpD]
 by_cases h1:1≤k
 ·have h1':(1:Int)≤k:=by omega
  simp only[decide_eq_true h1,decide_eq_true h1',if_true,Option.map_some,Bool.true_and]
  have:decide ((k:Int)≤16)=decide (k≤16):=by congr 1; rw[eq_iff_iff]; omega
  rw[this]
 ·have h1':¬ (1:Int)≤k:=by omega
  simp only[decide_eq_false h1,decide_eq_false h1',Bool.false_eq_true,if_false,Option.map_some,Bool.false_and]
theorem src_rng{c:CF}{n:Nat}{τ:Sl}{st:Store}{e:E}{k:Nat}(h:(runK c n).ev τ st e=some (.int (k:Int),st))(hk:k<100000):src (runK c n) τ st (.rng1 e)=some (.rng 0 k,st):=by
 have hb:big (k:Int)=false:=by unfold big; simp; omega
 simp only[src,h,Option.bind_some,hb,Bool.false_eq_true,if_false,Int.toNat_natCast]
theorem law_vein_ok(m:Nat)(w t d:Int)(h0:0≤d)(h1:d≤12)(x:List Nat)(ds:List D)(hs:Sm2 ds):callD fns (m+2) 24 [zD w t d,.tup (tD x::ds)] []=some (.bl (veinB w t d ds),[]):=by
 refine call_of (0+20) (F:=f_law_sound_vein) rfl rfl rfl ?_
 show exs (stepEx (rn fns (m+1) (0+20))) b_law_sound_vein [some (zD w t d),some (.tup (tD x::ds)),none,none] []=_
 unfold b_law_sound_vein
 have l:(rn fns (m+1) 18).ev [some (zD w t d),some (.tup (tD x::ds)),none,none] [] (.bcall .len [(.var 1)])=some (.int ((tD x::ds).length:Nat),[]):=len_tup (n:=16) rfl
 have c1:(rn fns (m+1) 19).tst [some (zD w t d),some (.tup (tD x::ds)),none,none] [] (.cmp .NotEq (.bcall .len [(.var 1)]) (.lit (.int 3)))=some (!decide (ds.length=2),[]):=by
  refine(cmp_ne (n:=18) l rfl).trans ?_
  congr 3
  rw[Bool.eq_iff_iff,beq_iff_eq,decide_eq_true_iff,List.length_cons]
  omega
 by_cases h2:ds.length=2
 ·match ds,h2,hs,c1 with
  |[a,b],h2,hs,c1=>
   have fa:flat 9 a=true:=flat_up 8 a (hs.fl a List.mem_cons_self)
   have fb8:flat 8 b=true:=hs.fl b (List.mem_cons_of_mem _ List.mem_cons_self)
   have fb:flat 9 b=true:=flat_up 8 b fb8
   have la:=hs.l1 a List.mem_cons_self
   have lb:=hs.l1 b (List.mem_cons_of_mem _ List.mem_cons_self)
   have ea:∀ n,(rn fns (m+1) (n+2)).ev [some (zD w t d),some (.tup [tD x,a,b]),none,none] [] (.idx (.var 1) (.lit (.int 1)))=some (a,[]):=fun n=>rfl
   have eb:∀ n,(rn fns (m+1) (n+2)).ev [some (zD w t d),some (.tup [tD x,a,b]),none,none] [] (.idx (.var 1) (.lit (.int 2)))=some (b,[]):=fun n=>rfl
   have c2:(rn fns (m+1) 18).tst [some (zD w t d),some (.tup [tD x,a,b]),none,none] [] (.not (.isi (.idx (.var 1) (.lit (.int 1))) [.tup] false))=some (!isT a,[]):=tst_not (n:=17) (tst_isi (n:=16) (isi_e (n:=15) (ea 13) fa))
   have c3:(rn fns (m+1) 18).tst [some (zD w t d),some (.tup [tD x,a,b]),none,none] [] (.not (.isi (.idx (.var 1) (.lit (.int 2))) [.tup] false))=some (!isT b,[]):=tst_not (n:=17) (tst_isi (n:=16) (isi_e (n:=15) (eb 13) fb))
   rw[decide_eq_true h2]at c1
   have c4:=tst_or (n:=19) c1 fun _=>tst_or (n:=18) c2 fun _=>c3
   rw[Bool.not_true,Bool.false_or,← Bool.not_and]at c4
   show _=some (Out.rt (.bl (rowB (stepR d) a&&outsV w t b)),[])
   cases hT:isT a&&isT b with
   |false=>
    have:(rowB (stepR d) a&&outsV w t b)=false:=by
     rw[Bool.and_eq_false_iff]at hT ⊢
     rcases hT with hT|hT
     ·left
      cases a<;>first|rfl|cases hT
     ·right
      cases b<;>first|rfl|cases hT
    rw[this]
    rw[hT]at c4
    exact exs_ite_t (n:=19) c4 (ret_ok (n:=19) rfl)
   |true=>
    rw[hT]at c4
    refine(exs_ite_f (n:=19) c4).trans ?_
    rw[Bool.and_eq_true]at hT
    cases a with
    |tup ss=>
     cases b with
     |tup cs=>
      have la:=la ss rfl
      have lb:=lb cs rfl
      have ls:(rn fns (m+1) 18).ev [some (zD w t d),some (.tup [tD x,.tup ss,.tup cs]),none,none] [] (.bcall .len [(.idx (.var 1) (.lit (.int 1)))])=some (.int ss.length,[]):=len_e (n:=17) (ea 15)
      have ld:(rn fns (m+1) 18).ev [some (zD w t d),some (.tup [tD x,.tup ss,.tup cs]),none,none] [] (.idx (.var 0) (.lit (.int 2)))=some (.int d,[]):=rfl
      have d1:=cmp_ne (n:=18) ls ld
      have ed:(((ss.length:Nat):Int)==d)=decide (ss.length=(stepR d).length):=by
       rw[Bool.eq_iff_iff,beq_iff_eq,decide_eq_true_iff,stepR,List.length_replicate]
       omega
      rw[ed]at d1
      have cp:=gc_comp (c:=callD fns (m+1)) (n:=14) (τ:=[some (zD w t d),some (.tup [tD x,.tup ss,.tup cs]),none,none]) (st:=[]) (it:=.idx (.var 1) (.lit (.int 1))) (elt:=.gc (.call 22 [(.var 0),(.lit (.int 0)),(.lit (.int 4))])) (sr:=[none]) (s:=.tup ss) (rest:=[]) ss (fun x=>x) (fun x=>.bl (numB x (0,4))) (src_idx1 (ea 12)) (fun i=>by rw[List.map_id']; rfl) rfl rfl (by omega) (fun _ _=>rfl) (fun y hy=>gc_call (n:=11) (ds:=[y,.int 0,.int 4]) rfl (num_ok m [] y 0 4 (tup_fl fa y hy)) rfl)
      have ab:asBools (ss.map fun x=>D.bl (numB x (0,4)))=some (ss.map fun x=>numB x (0,4)):=by
       have:=bools_ok (ss.map fun x=>numB x (0,4))
       rwa [List.map_map]at this
      have al:(rn fns (m+1) 17).ev [some (zD w t d),some (.tup [tD x,.tup ss,.tup cs]),none,none] [] (.bcall .all [(.gc (.comp (.var 0) (.idx (.var 1) (.lit (.int 1))) none (.gc (.call 22 [(.var 0),(.lit (.int 0)),(.lit (.int 4))])) [none]))])=some (.bl (ss.all fun x=>numB x (0,4)),[]):=by
       have cp':(runK (callD fns (m+1)) 16).ev _ _ _=_:=cp
       rw[ev_k]
       simp only[stepEv,evs,cp',Option.bind_some,bfun,bAll,seqAt,ab,Option.map_some,List.all_map]
       rfl
      have al':(rn fns (m+1) 18).tst [some (zD w t d),some (.tup [tD x,.tup ss,.tup cs]),none,none] [] (.bcall .all [(.gc (.comp (.var 0) (.idx (.var 1) (.lit (.int 1))) none (.gc (.call 22 [(.var 0),(.lit (.int 0)),(.lit (.int 4))])) [none]))])=some (ss.all fun x=>numB x (0,4),[]):=by
       rw[tst_k]
       simp only[stepTst,al,Option.bind_some,truth,Option.map_some]
      have d2:=tst_or (n:=19) d1 fun _=>tst_not (n:=18) al'
      rw[← Bool.not_and]at d2
      have rs:rowB (stepR d) (.tup ss)=(decide (ss.length=(stepR d).length)&&ss.all fun x=>numB x (0,4)):=by
       show(decide (ss.length=(stepR d).length)&&(ss.zip (stepR d)).all fit)=_
       by_cases hh:ss.length=(stepR d).length
       ·rw[steps_fit d ss (by rw[hh,stepR,List.length_replicate])]
       ·rw[decide_eq_false hh,Bool.false_and,Bool.false_and]
      rw[← rs]at d2
      cases hrs:rowB (stepR d) (.tup ss) with
      |false=>
       rw[hrs]at d2
       rw[Bool.false_and]
       exact exs_ite_t (n:=19) d2 (ret_ok (n:=19) rfl)
      |true=>
       rw[hrs]at d2
       rw[Bool.true_and]
       refine(exs_ite_f (n:=19) d2).trans ?_
       have lc:∀ n,(rn fns (m+1) (n+3)).ev [some (zD w t d),some (.tup [tD x,.tup ss,.tup cs]),none,none] [] (.bcall .len [(.idx (.var 1) (.lit (.int 2)))])=some (.int cs.length,[]):=fun n=>len_e (n:=n+2) (eb n)
       have d3:=len_in (n:=18) (lc 15) (by omega)
       show _=some (Out.rt (.bl (decide (1≤cs.length)&&decide (cs.length≤16)&&(cs.all (rowB (cellR w t))&&uniqB [] cs))),[])
       cases hcl:decide (1≤cs.length)&&decide (cs.length≤16) with
       |false=>
        rw[hcl]at d3
        rw[Bool.false_and]
        exact exs_ite_t (n:=19) d3 (ret_ok (n:=19) rfl)
       |true=>
        rw[hcl]at d3
        rw[Bool.true_and]
        refine(exs_ite_f (n:=19) d3).trans ?_
        have fc:∀ c∈cs,flat 8 c=true:=tup_fl fb8
        have key:=for_chk (c:=callD fns (m+1)) (N:=0+20) (n:=cs.length) (i:=2) (τ:=[some (zD w t d),some (.tup [tD x,.tup ss,.tup cs]),none,none]) (st:=[]) (it:=.rng1 (.bcall .len [(.idx (.var 1) (.lit (.int 2)))])) (body:=veinL) (b:=[.ret (.lit (.bl true))]) (chkV (rowB (cellR w t)) [] cs) (fun τ=>∃ a b,τ=vT w t d x ss cs a b) (.bl false)
         (src_rng (lc 17) (by omega)) ⟨_,_,rfl⟩ (fun j τ hj hI hP=>by
          obtain⟨a,b,rfl⟩:=hI
          have tn:=vein_turn m w t d x ss cs fc j cs[j] (List.getElem?_eq_getElem hj) b
          rw[hP,if_pos rfl]at tn
          exact⟨_,_,rfl,tn,_,_,rfl⟩) (fun j τ hj hI hP=>by
          obtain⟨a,b,rfl⟩:=hI
          have tn:=vein_turn m w t d x ss cs fc j cs[j] (List.getElem?_eq_getElem hj) b
          rw[hP,if_neg Bool.false_ne_true]at tn
          exact⟨_,rfl,tn⟩)
        rw[chk_all]at key
        rcases key with⟨ha,τ',hI,he⟩|⟨ha,he⟩
        ·rw[ha]
         refine Eq.trans he ?_
         exact ret_ok rfl
        ·rw[ha]
         exact he
     |_=>cases hT.2
    |_=>cases hT.1
 ·rw[decide_eq_false h2]at c1
  have:veinB w t d ds=false:=by
   match ds with
   |[]=>rfl
   |[_]=>rfl
   |[_,_]=>exact absurd rfl h2
   |_::_::_::r=>rfl
  rw[this]
  exact exs_ite_t (n:=19) ((tst_or (n:=19) (y:=true) c1 fun h=>by cases h).trans rfl) (ret_ok (n:=19) rfl)
theorem law_sound_ok(m:Nat)(w t d:Int)(h0:0≤d)(h1:d≤12)(x:List Nat)(ds:List D)(hs:Sm2 ds):callD fns (m+3) 25 [zD w t d,.tup (tD x::ds)] []=some (.bl (soundB w t d x ds),[]):=by
 refine call_of (0+20) (F:=f_law_sound) rfl rfl rfl ?_
 show exs (stepEx (rn fns (m+2) (0+20))) b_law_sound [some (zD w t d),some (.tup (tD x::ds)),none,none] []=_
 unfold b_law_sound
 rw[xVein,xStake,xPay]
 have c1:=eqw (c:=callD fns (m+2)) (n:=17) (i:=1) (τ:=[some (zD w t d),some (.tup (tD x::ds)),none,none]) (st:=[]) (x:=x) (y:=wVein) (ds:=ds) rfl
 by_cases hv:x=wVein
 ·subst hv
  rw[beq_self_eq_true]at c1
  rw[soundB,if_pos rfl]
  refine exs_ite_t (n:=19) c1 (ret_ok (n:=19) ?_)
  exact law_vein_ok m w t d h0 h1 wVein ds hs
 rw[beq_eq_false_iff_ne.mpr hv]at c1
 refine(exs_ite_f (n:=19) c1).trans ?_
 rw[soundB,if_neg hv]
 have ix:∀ (n:Nat) (a b:Option D),(rn fns (m+2) (n+2)).ev [some (zD w t d),some (.tup (tD x::ds)),a,b] [] (.idx (.var 1) (.lit (.int 0)))=some (tD x,[]):=fun n a b=>ix_w rfl
 have g:=gc_bnd (m+1) 17 w t d x [some (zD w t d),some (.tup (tD x::ds)),none,none] [(.var 0),(.idx (.var 1) (.lit (.int 0)))] (by
  have a0:(rn fns (m+1+1) (17+1)).ev [some (zD w t d),some (.tup (tD x::ds)),none,none] [] (.var 0)=some (zD w t d,[]):=rfl
  have a1:(rn fns (m+1+1) (17+1)).ev [some (zD w t d),some (.tup (tD x::ds)),none,none] [] (.idx (.var 1) (.lit (.int 0)))=some (tD x,[]):=ix 16 none none
  simp only[evs,a0,a1,Option.bind_some])
 rw[exs_cons (stS g rfl)]
 cases hf:(wR w t d).find? fun p=>p.1==x with
 |none=>
  exact exs_ite_t (n:=19) ((tst_or (n:=19) (x:=true) (y:=true) rfl fun h=>by cases h).trans rfl) (ret_ok (n:=19) rfl)
 |some p=>
  show exs (stepEx (rn fns (m+2) (0+20))) _ (sT w t d x ds p.2 none) []=some (Out.rt (.bl (fitB p.2 ds&&agreeB x ds)),[])
  have lb:∀ (n:Nat) (a:Option D),(rn fns (m+2) (n+2)).ev (sT w t d x ds p.2 a) [] (.bcall .len [(.var 2)])=some (.int p.2.length,[]):=fun n a=>(len_l (n:=n+1) (ds:=p.2.map fun x=>pD x.2) rfl).trans (by rw[List.length_map])
  have lf:(rn fns (m+2) 18).ev (sT w t d x ds p.2 none) [] (.bin .Sub (.bcall .len [(.var 1)]) (.lit (.int 1)))=some (.int (((tD x::ds).length:Nat) - 1),[]):=evB (n:=17) (a:=.int ((tD x::ds).length:Nat)) (b:=.int 1) (len_tup (n:=15) rfl) rfl rfl
  have c2:(rn fns (m+2) 19).tst (sT w t d x ds p.2 none) [] (.cmp .Is (.var 2) (.lit .non))=some (false,[]):=rfl
  have c3:=tst_or (n:=19) c2 fun _=>cmp_ne (n:=18) (lb 16 none) lf
  have el:((p.2.length:Int)==((tD x::ds).length:Nat) - 1)=decide (ds.length=p.2.length):=by
   rw[Bool.eq_iff_iff,beq_iff_eq,decide_eq_true_iff,List.length_cons]
   omega
  rw[el,Bool.false_or]at c3
  by_cases hl:ds.length=p.2.length
  ·rw[decide_eq_true hl]at c3
   refine(exs_ite_f (n:=19) c3).trans ?_
   have hp7:=wR_len w t d p (find_word hf).1
   have key:=for_chk (c:=callD fns (m+2)) (N:=0+20) (n:=p.2.length) (i:=3) (τ:=sT w t d x ds p.2 none) (st:=[]) (it:=.rng1 (.bcall .len [(.var 2)])) (body:=sndB) (b:=[.ite (.cmp .Eq (.idx (.var 1) (.lit (.int 0))) (.lit (.str (mk wStake)))) [.ret (.and (.cmp .LtE (.idx (.var 1) (.lit (.int 2))) (.idx (.var 1) (.lit (.int 4)))) (.cmp .LtE (.idx (.var 1) (.lit (.int 3))) (.idx (.var 1) (.lit (.int 5)))))] [],
     .ret (.or (.cmp .NotEq (.idx (.var 1) (.lit (.int 0))) (.lit (.str (mk wPay)))) (.cmp .NotEq (.idx (.var 1) (.lit (.int 1))) (.idx (.var 1) (.lit (.int 2)))))]) (fitN ds p.2) (fun τ=>∃ a,τ=sT w t d x ds p.2 a) (.bl false)
    (src_rng (lb 18 none) (by omega)) ⟨_,rfl⟩ (fun j τ hj hI hP=>by
     obtain⟨a,rfl⟩:=hI
     have hj':j<ds.length:=by omega
     have tn:=snd_tst (m+1) 10 w t d x ds p.2 j ds[j] p.2[j] (List.getElem?_eq_getElem hj') (List.getElem?_eq_getElem hj) (flat_up 8 _ (hs.fl _ (List.getElem_mem hj')))
     have e:numB ds[j] p.2[j].2=true:=by
      unfold fitN at hP
      rw[List.getElem?_eq_getElem hj',List.getElem?_eq_getElem hj]at hP
      exact hP
     rw[e]at tn
     exact⟨sT w t d x ds p.2 (some (.int (0+(j:Int)))),sT w t d x ds p.2 (some (.int (0+(j:Int)))),rfl,(exs_ite_f (n:=18) tn).trans rfl,_,rfl⟩) (fun j τ hj hI hP=>by
     obtain⟨a,rfl⟩:=hI
     have hj':j<ds.length:=by omega
     have tn:=snd_tst (m+1) 10 w t d x ds p.2 j ds[j] p.2[j] (List.getElem?_eq_getElem hj') (List.getElem?_eq_getElem hj) (flat_up 8 _ (hs.fl _ (List.getElem_mem hj')))
     have e:numB ds[j] p.2[j].2=false:=by
      unfold fitN at hP
      rw[List.getElem?_eq_getElem hj',List.getElem?_eq_getElem hj]at hP
      exact hP
     rw[e]at tn
     exact⟨sT w t d x ds p.2 (some (.int (0+(j:Int)))),rfl,exs_ite_t (n:=18) tn (ret_ok (n:=18) rfl)⟩)
   rw[fitN_all p.2 ds hl]at key
   have fb:fitB p.2 ds=(ds.zip p.2).all fit:=by rw[fitB,decide_eq_true hl,Bool.true_and]
   rcases key with⟨ha,τ',⟨a,rfl⟩,he⟩|⟨ha,he⟩
   ·rw[fb,ha,Bool.true_and]
    refine Eq.trans he ?_
    have hfit:fitB p.2 ds=true:=by rw[fb,ha]
    obtain⟨is,rfl,hil⟩:=fit_ints _ _ hfit
    have d1:=eqw (c:=callD fns (m+2)) (n:=17) (i:=1) (τ:=sT w t d x (is.map D.int) p.2 a) (st:=[]) (x:=x) (y:=wStake) (ds:=is.map D.int) rfl
    by_cases h1:x=wStake
    ·subst h1
     rw[beq_self_eq_true]at d1
     obtain⟨a1,b,c,e,f,rfl⟩:=five (hil.trans (row_stake hf))
     refine exs_ite_t (n:=19) d1 (ret_ok (n:=19) ?_)
     show _=some (D.bl (decide (b≤e)&&decide (c≤f)),[])
     exact ev_and (n:=18) (x:=decide (b≤e)) (y:=decide (c≤f)) rfl fun _=>rfl
    ·rw[beq_eq_false_iff_ne.mpr h1]at d1
     refine(exs_ite_f (n:=19) d1).trans ?_
     refine ret_ok ?_
     have wn:(rn fns (m+2) 19).ev (sT w t d x (is.map D.int) p.2 a) [] (.cmp .NotEq (.idx (.var 1) (.lit (.int 0))) (.lit (.str (mk wPay))))=some (.bl (!(x==wPay)),[]):=by
      have i:(rn fns (m+2) 18).ev (sT w t d x (is.map D.int) p.2 a) [] (.idx (.var 1) (.lit (.int 0)))=some (tD x,[]):=ix 16 _ _
      have f:(rn fns (m+2) 18).ev (sT w t d x (is.map D.int) p.2 a) [] (.lit (.str (mk wPay)))=some (tD wPay,[]):=rfl
      rw[ev_k]
      simp only[stepEv,i,f,Option.bind_some,cmpD,neD,eq_tt,Option.map_some]
     show(rn fns (m+2) (19+1)).ev _ _ _=_
     rw[ev_k]
     simp only[stepEv,wn,Option.bind_some]
     rw[agreeB,if_neg h1]
     by_cases h2:x=wPay
     ·subst h2
      obtain⟨a1,b,c,rfl⟩:=three (hil.trans (row_pay hf))
      have e1:(rn fns (m+2) 18).ev (sT w t d wPay ([a1,b,c].map D.int) p.2 a) [] (.idx (.var 1) (.lit (.int 1)))=some (.int a1,[]):=rfl
      have e2:(rn fns (m+2) 18).ev (sT w t d wPay ([a1,b,c].map D.int) p.2 a) [] (.idx (.var 1) (.lit (.int 2)))=some (.int b,[]):=rfl
      rw[beq_self_eq_true,if_pos rfl]
      show(rn fns (m+2) (18+1)).ev _ _ _=some (D.bl (!(a1==b)),[])
      rw[ev_k]
      simp only[stepEv,e1,e2,Option.bind_some,cmpD,neD,eqD_ii,Option.map_some]
     ·rw[beq_eq_false_iff_ne.mpr h2,if_neg h2]
      rfl
   ·rw[fb,ha,Bool.false_and]
    exact he
  ·rw[decide_eq_false hl]at c3
   rw[fitB,decide_eq_false hl,Bool.false_and,Bool.false_and]
   exact exs_ite_t (n:=19) c3 (ret_ok (n:=19) rfl)
def Gd(x:D):Prop:=flat 8 x=true∧∀ es,x=.tup es→es.length<1000∧∀ y∈es,∀ zs,y=.tup zs→zs.length<1000
theorem Sm2.of{ds:List D}(hl:ds.length<900)(h:∀ x∈ds,Gd x):Sm2 ds:=⟨hl,fun x hx=>(h x hx).1,fun x hx es e=>((h x hx).2 es e).1,fun x hx es e=>((h x hx).2 es e).2⟩
theorem gd_int(i:Int):Gd (.int i):=⟨rfl,fun _ h=>by cases h⟩
theorem gd_str(i:Str):Gd (.str i):=⟨rfl,fun _ h=>by cases h⟩
def In2(y:D):Prop:=(∃ i,y=.int i)∨∃ i j,y=.tup [.int i,.int j]
theorem gd_tup{es:List D}(hl:es.length<1000)(h:∀ y∈es,In2 y):Gd (.tup es):=by
 refine⟨?_,fun _ e=>?_⟩
 ·show flats 7 es=true
  refine flats_of fun y hy=>?_
  rcases h y hy with⟨i,rfl⟩|⟨i,j,rfl⟩<;>rfl
 ·cases e
  refine⟨hl,fun y hy zs e=>?_⟩
  rcases h y hy with⟨i,rfl⟩|⟨i,j,rfl⟩
  ·cases e
  ·cases e
   simp
theorem nl_in2{es:List D}(h:∀ y∈es,In2 y):noLocs es=true:=by
 refine noLocs_of fun y hy=>?_
 rcases h y hy with⟨i,rfl⟩|⟨i,j,rfl⟩<;>rfl
theorem nl_gd{es:List D}(h:∀ y∈es,Gd y):noLocs es=true:=flats_nl 8 es (flats_of fun y hy=>(h y hy).1)
def Ft(v:D):Prop:=∃ x ds,v=.tup (tD x::ds)∧ds.length<800∧(∀ y∈ds,Gd y)
theorem Ft.nl{v:D}(h:Ft v):noLoc v=true:=by
 obtain⟨x,ds,rfl,_,h⟩:=h
 rw[noLoc_tup,noLocs_cons,nl_gd h]; rfl
theorem in2_i(ks:List Int):∀ y∈ks.map D.int,In2 y:=fun y hy=>by
 obtain⟨k,_,rfl⟩:=List.mem_map.mp hy
 exact .inl ⟨_,rfl⟩
theorem in2_c(cs:List (Int×Int)):∀ y∈cs.map cD,In2 y:=fun y hy=>by
 obtain⟨k,_,rfl⟩:=List.mem_map.mp hy
 exact .inr ⟨_,_,rfl⟩
theorem words_le:∀ p∈wordsN,1≤p.2∧p.2≤7∧p.1≠wVein∧(p.1=wPay→p.2=3):=by decide
theorem ft_vein{a b:List D}(ha:a.length<1000)(hb:b.length<1000)(h1:∀ y∈a,In2 y)(h2:∀ y∈b,In2 y):Ft (.tup [tD wVein,.tup a,.tup b]):=
 ⟨wVein,[.tup a,.tup b],rfl,by simp,fun y hy=>by
  simp only[List.mem_cons,List.not_mem_nil,or_false]at hy
  rcases hy with rfl|rfl
  ·exact gd_tup ha h1
  ·exact gd_tup hb h2⟩
theorem tst_g{c:CF}{n:Nat}{τ:Sl}{st:Store}{a:E}{x y:Int}(ha:(runK c (n+1)).ev τ st a=some (.int x,st)):(runK c (n+2)).tst τ st (.cmp .Gt a (.lit (.int y)))=some (decide (x > y),st):=by
 have b:(runK c (n+1)).ev τ st (.lit (.int y))=some (.int y,st):=rfl
 rw[tst_k]
 simp only[stepTst,ha,b,Option.bind_some,cmpD,Option.map_some]
theorem cut_mem{xs:List D}{l h:Option Int}{y:D}(hy:y∈cut xs l h):y∈xs:=List.mem_of_mem_drop (List.mem_of_mem_take hy)
theorem cut_len(xs:List D)(l h:Option Int):(cut xs l h).length≤xs.length:=by
 unfold cut
 rw[List.length_take,List.length_drop]
 omega
theorem add_tup(S:Store){a b:List D}(h:a≠[])(hl:a.length+b.length<1000):binop S .Add (.tup a) (.tup b)=some (.tup (a++b),S):=by
 have e:a.isEmpty=false:=by cases a with
  |nil=>exact absurd rfl h
  |cons _ _=>rfl
 simp only[binop]
 rw[if_neg]
 rw[e]
 unfold lim
 simp
 omega
theorem cat_tup(S:Store){a b:List D}(hl:a.length+b.length<1000):catT S (.tup a) (.tup b)=some (.tup (a++b),S):=by
 simp only[catT]
 rw[if_neg]
 unfold lim
 omega
theorem ev_cat{c:CF}{n:Nat}{τ:Sl}{S:Store}{A B:E}{a b:List D}(ha:(runK c n).ev τ S A=some (.tup a,S))(hb:(runK c n).ev τ S B=some (.tup b,S))(hl:a.length+b.length<1000):(runK c (n+1)).ev τ S (.cat A B)=some (.tup (a++b),S):=by
 rw[ev_k]
 simp only[stepEv,ha,hb,Option.bind_some,cat_tup S hl]
noncomputable def tWork:List Nat:=[119,111,114,107]
theorem x3:PySem.Str.ofString "3" = mk [51]:=by decide +kernel
theorem xE:PySem.Str.ofString "" = mk []:=by decide +kernel
noncomputable def things:List D:=[tD [51],tD [],tD tWork,.tup [],.tup [.int 1],.tup [.int 1,.int 2],.tup [.tup [.int 0,.int 0]],.tup [.tup [.int 0,.int 0],.int 1],.int 1,.int 0,.int 5,.int (-1)]
theorem gd_things:∀ v∈things,Gd v:=by
 intro v hv
 simp only[things,List.mem_cons,List.not_mem_nil,or_false]at hv
 have i:∀ i:Int,In2 (.int i):=fun i=>.inl ⟨i,rfl⟩
 have z:In2 (.tup [.int 0,.int 0]):=.inr ⟨_,_,rfl⟩
 rcases hv with rfl|rfl|rfl|rfl|rfl|rfl|rfl|rfl|rfl|rfl|rfl|rfl
 ·exact gd_str _
 ·exact gd_str _
 ·exact gd_str _
 all_goals first|exact gd_int _|skip
 all_goals (refine gd_tup (by simp) fun y hy=>?_; simp only[List.mem_cons,List.not_mem_nil,or_false]at hy)
 ·rw[hy]; exact i _
 ·rcases hy with rfl|rfl<;>exact i _
 ·rw[hy]; exact z
 ·rcases hy with rfl|rfl
  ·exact z
  ·exact i _
section
variable {ns:List Int}(hn:ns.length≤63){m:Nat}
include hn
theorem dexN(hm:1≤m)(k j:Int)(hj:0≤j)(hj2:j<1000)(L:Nat)(hL:0<L):∃ v:Nat,v<L∧∀ st,callD fns m 9 [sD ns,.int k,.int j,.int (L:Int)] st=some (.int (v:Int),st):=by
 obtain⟨v,v0,v1,ev⟩:=dex hn (N:=m) hm k j (L:Int) hj hj2 (by omega)
 refine⟨v.toNat,by omega,fun st=>?_⟩
 rw[ev st,Int.toNat_of_nonneg v0]
theorem thing_ok(hm:2≤m)(k j:Int)(hj:0≤j)(hj2:j<900):∃ v,Gd v∧∀ st,callD fns m 27 [sD ns,.int k,.int j] st=some (v,st):=by
 obtain⟨m,rfl⟩:∃ q,m=q+1:=⟨m - 1,by omega⟩
 obtain⟨b,b0,b1,eb⟩:=dex hn (N:=m) (by omega) k j 12 (by omega) (by omega) (by omega)
 have hb:b<things.length:=b1
 refine⟨things.getD b.toNat .non,gd_things _ (getD_mem things .non b b0 hb),fun st=>call_of (0+30) (F:=f_law_thing) rfl rfl rfl ?_⟩
 show exs (stepEx (rn fns m (0+30))) b_law_thing [some (sD ns),some (.int k),some (.int j),none] st=_
 unfold b_law_thing
 rw[x3,xE,xWork]
 have l1:(rn fns m (0+30)).ev [some (sD ns),some (.int k),some (.int j),none] st (.gc (.lst [(.lit (.str (mk [51]))),(.lit (.str (mk []))),(.lit (.str (mk tWork))),(.tup []),(.tup [(.lit (.int 1))]),(.tup [(.lit (.int 1)),(.lit (.int 2))]),(.tup [(.tup [(.lit (.int 0)),(.lit (.int 0))])]),(.tup [(.tup [(.lit (.int 0)),(.lit (.int 0))]),(.lit (.int 1))]),(.lit (.int 1)),(.lit (.int 0)),(.lit (.int 5)),(.neg (.lit (.int 1)))]))=some (.lst things,st):=
  gc_lit (n:=28) (ds:=things) rfl (by simp[things]) (nl_gd gd_things)
 refine(exs_cons (τ':=[some (sD ns),some (.int k),some (.int j),some (.lst things)]) (s':=st) (stS l1 rfl)).trans ?_
 have ll:(rn fns m 25).ev [some (sD ns),some (.int k),some (.int j),some (.lst things)] st (.bcall .len [(.var 3)])=some (.int 12,st):=len_l (n:=24) (ds:=things) rfl
 have ix:=ix_lst (fun x:D=>x) things .non b b0 hb st
 rw[List.map_id']at ix
 have a3:∀ n:Nat,(rn fns m (n+1)).ev [some (sD ns),some (.int k),some (.int j),some (.lst things)] st (.var 3)=some (.lst things,st):=fun n=>rfl
 generalize things=T at ll ix a3
 have a0:(rn fns m 25).ev [some (sD ns),some (.int k),some (.int j),some (.lst T)] st (.var 0)=some (sD ns,st):=rfl
 have a1:(rn fns m 25).ev [some (sD ns),some (.int k),some (.int j),some (.lst T)] st (.var 1)=some (.int k,st):=rfl
 have a2:(rn fns m 25).ev [some (sD ns),some (.int k),some (.int j),some (.lst T)] st (.var 2)=some (.int j,st):=rfl
 have g:=gc_call (c:=callD fns m) (n:=24) (τ:=[some (sD ns),some (.int k),some (.int j),some (.lst T)]) (st:=st) (f:=9) (es:=[(.var 0),(.var 1),(.var 2),(.bcall .len [(.var 3)])]) (ds:=[sD ns,.int k,.int j,.int 12]) (by simp only[evs,a0,a1,a2,ll,Option.bind_some]) (eb st) rfl
 exact ret_ok (ev_up (evX (n:=27) (a3 26) g ix) (by omega))
theorem bent_vein(hm:2≤m)(k y:Int)(a b:List D)(ha:a.length<100)(hb:b.length<100)(h1:∀ y∈a,In2 y)(h2:∀ y∈b,In2 y):∃ v,Ft v∧∀ st,callD fns m 28 [sD ns,.int k,.int y,.tup [tD wVein,.tup a,.tup b]] st=some (v,st):=by
 obtain⟨m,rfl⟩:∃ q,m=q+1:=⟨m - 1,by omega⟩
 obtain⟨q,q0,q1,eq⟩:=dex hn (N:=m) (by omega) k 73 3 (by omega) (by omega) (by omega)
 let T:List D→List D→Sl:=fun s o=>[some (sD ns),some (.int k),some (.int y),some (.tup [tD wVein,.tup a,.tup b]),some (.tup s),some (.tup o)]
 have tt:∀ (st:Store) (s o:List D) (z:Int),(rn fns m (29+1)).tst (T s o) st (.cmp .Eq (.var 2) (.lit (.int z)))=some (y==z,st):=fun st s o z=>tst_i (n:=28) rfl
 have s4:∃ s1:List D,s1.length<200∧(∀ y∈s1,In2 y)∧∀ st,stepEx (rn fns m (29+1)) (T a b) st (.ite (.cmp .Eq (.var 2) (.lit (.int 4))) [.set (.var 4) (.cat (.var 4) (.tup [(.lit (.int 0))]))] [])=some (.nx (T s1 b),st):=by
  by_cases h:y=4
  ·refine⟨a++[.int 0],by simp; omega,fun q hq=>?_,fun st=>?_⟩
   ·rcases List.mem_append.mp hq with hq|hq
    ·exact h1 q hq
    ·rw[List.mem_singleton.mp hq]; exact .inl ⟨_,rfl⟩
   ·have t:=tt st a b 4
    rw[h,beq_self_eq_true]at t
    subst h
    refine(stepEx_ite_t (st':=st) t).trans ?_
    rw[ex_k,exs_cons (τ':=T (a++[.int 0]) b) (s':=st) (stS (ev_cat (n:=28) (a:=a) (b:=[.int 0]) rfl rfl (by simp; omega)) rfl)]
    rfl
  ·refine⟨a,by omega,h1,fun st=>?_⟩
   have t:=tt st a b 4
   rw[beq_eq_false_iff_ne.mpr h]at t
   exact(stepEx_ite_f (st':=st) t).trans rfl
 obtain⟨s1,l1,i1,e4⟩:=s4
 have s5:∃ s2:List D,s2.length<200∧(∀ y∈s2,In2 y)∧∀ st,stepEx (rn fns m (29+1)) (T s1 b) st (.ite (.cmp .Eq (.var 2) (.lit (.int 5))) [.set (.var 4) (.gc (.sli (.var 4) (some (.lit (.int 1))) none))] [])=some (.nx (T s2 b),st):=by
  by_cases h:y=5
  ·refine⟨cut s1 (some 1) none,by have:=cut_len s1 (some 1) none; omega,fun q hq=>i1 q (cut_mem hq),fun st=>?_⟩
   have t:=tt st s1 b 5
   rw[h,beq_self_eq_true]at t
   subst h
   refine(stepEx_ite_t (st':=st) t).trans ?_
   rw[ex_k,exs_cons (τ':=T (cut s1 (some 1) none) b) (s':=st) (stS (gc_tcut (n:=27) (xs:=s1) (l:=some 1) (h:=none) rfl rfl rfl (nl_in2 fun q hq=>i1 q (cut_mem hq))) rfl)]
   rfl
  ·refine⟨s1,l1,i1,fun st=>?_⟩
   have t:=tt st s1 b 5
   rw[beq_eq_false_iff_ne.mpr h]at t
   exact(stepEx_ite_f (st':=st) t).trans rfl
 obtain⟨s2,l2,i2,e5⟩:=s5
 have s6:∃ o1:List D,o1.length<200∧(∀ y∈o1,In2 y)∧∀ st,stepEx (rn fns m (29+1)) (T s2 b) st (.ite (.cmp .Eq (.var 2) (.lit (.int 6))) [.set (.var 5) (.cat (.var 5) (.tup [(.gc (.call 9 [(.var 0),(.var 1),(.lit (.int 73)),(.lit (.int 3))]))]))] [])=some (.nx (T s2 o1),st):=by
  by_cases h:y=6
  ·refine⟨b++[.int q],by simp; omega,fun p hp=>?_,fun st=>?_⟩
   ·rcases List.mem_append.mp hp with hp|hp
    ·exact h2 p hp
    ·rw[List.mem_singleton.mp hp]; exact .inl ⟨_,rfl⟩
   ·have t:=tt st s2 b 6
    rw[h,beq_self_eq_true]at t
    subst h
    have g:=gc_call (c:=callD fns m) (n:=24) (τ:=T s2 b) (st:=st) (f:=9) (es:=[(.var 0),(.var 1),(.lit (.int 73)),(.lit (.int 3))]) (ds:=[sD ns,.int k,.int 73,.int 3]) rfl (eq st) rfl
    have tp:(rn fns m 28).ev (T s2 b) st (.tup [(.gc (.call 9 [(.var 0),(.var 1),(.lit (.int 73)),(.lit (.int 3))]))])=some (.tup [.int q],st):=by
     have g':(runK (callD fns m) 27).ev _ _ _=_:=g
     rw[ev_k]
     simp only[stepEv,evs,g',Option.bind_some]
     rfl
    refine(stepEx_ite_t (st':=st) t).trans ?_
    rw[ex_k,exs_cons (τ':=T s2 (b++[.int q])) (s':=st) (stS (ev_cat (n:=28) (a:=b) (b:=[.int q]) rfl tp (by simp; omega)) rfl)]
    rfl
  ·refine⟨b,by omega,h2,fun st=>?_⟩
   have t:=tt st s2 b 6
   rw[beq_eq_false_iff_ne.mpr h]at t
   exact(stepEx_ite_f (st':=st) t).trans rfl
 obtain⟨o1,l3,i3,e6⟩:=s6
 have s7:∃ o2:List D,o2.length<200∧(∀ y∈o2,In2 y)∧∀ st,stepEx (rn fns m (29+1)) (T s2 o1) st (.ite (.cmp .Eq (.var 2) (.lit (.int 7))) [.set (.var 5) (.tup [])] [])=some (.nx (T s2 o2),st):=by
  by_cases h:y=7
  ·refine⟨[],by simp,fun p hp=>(by cases hp),fun st=>?_⟩
   have t:=tt st s2 o1 7
   rw[h,beq_self_eq_true]at t
   subst h
   exact(stepEx_ite_t (st':=st) t).trans rfl
  ·refine⟨o1,l3,i3,fun st=>?_⟩
   have t:=tt st s2 o1 7
   rw[beq_eq_false_iff_ne.mpr h]at t
   exact(stepEx_ite_f (st':=st) t).trans rfl
 obtain⟨o2,l4,i4,e7⟩:=s7
 refine⟨.tup [tD wVein,.tup s2,.tup o2],ft_vein (by omega) (by omega) i2 i4,fun st=>call_of (0+30) (F:=f_law_vein_bent) rfl rfl rfl ?_⟩
 show exs (stepEx (rn fns m (29+1))) b_law_vein_bent [some (sD ns),some (.int k),some (.int y),some (.tup [tD wVein,.tup a,.tup b]),none,none] st=_
 unfold b_law_vein_bent
 rw[xVein]
 refine(exs_cons (τ':=[some (sD ns),some (.int k),some (.int y),some (.tup [tD wVein,.tup a,.tup b]),some (.tup a),none]) (s':=st) rfl).trans ?_
 refine(exs_cons (τ':=T a b) (s':=st) rfl).trans ?_
 refine(exs_cons (e4 st)).trans ?_
 refine(exs_cons (e5 st)).trans ?_
 refine(exs_cons (e6 st)).trans ?_
 refine(exs_cons (e7 st)).trans ?_
 exact ret_ok rfl
end
theorem xWords:(PySem.Str.ofString "Vein" = mk [86,101,105,110])∧(PySem.Str.ofString "veins" = mk [118,101,105,110,115])∧(PySem.Str.ofString "work " = mk [119,111,114,107,32]):=by decide +kernel
noncomputable def bwords:List (List Nat):=[[86,101,105,110],[118,101,105,110,115],[],[119,111,114,107,32],[103,105,118,101],wStake,[119,111,114,107],wVein,[106,111,105,110],[115,101,108,108],[112,97,114,116],[100,105,103],wPay]
def Pf(v:D):Prop:=∃ x ds,v=.tup (tD x::ds)∧1≤ds.length∧ds.length<100∧(∀ y∈ds,Gd y)∧(x=wVein→∃ a b,ds=[.tup a,.tup b]∧a.length<100∧b.length<100∧(∀ y∈a,In2 y)∧(∀ y∈b,In2 y))
theorem Pf.ft{v:D}(h:Pf v):Ft v:=by
 obtain⟨x,ds,e,_,h2,h3,_⟩:=h
 exact⟨x,ds,e,by omega,h3⟩
theorem pf_vein{a b:List D}(ha:a.length<100)(hb:b.length<100)(h1:∀ y∈a,In2 y)(h2:∀ y∈b,In2 y):Pf (.tup [tD wVein,.tup a,.tup b]):=
 ⟨wVein,[.tup a,.tup b],rfl,by simp,by simp,fun y hy=>by
  simp only[List.mem_cons,List.not_mem_nil,or_false]at hy
  rcases hy with rfl|rfl
  ·exact gd_tup (by omega) h1
  ·exact gd_tup (by omega) h2,fun _=>⟨a,b,rfl,ha,hb,h1,h2⟩⟩
theorem pf_fact{f:Fact}(h:f.ok):Pf (fD f):=by
 cases f with
 |word w ks=>
  obtain⟨h1,h2,h3,h4⟩:=words_le _ h
  have h1:1≤ks.length:=h1
  have h2:ks.length≤7:=h2
  refine⟨w,ks.map D.int,rfl,by rw[List.length_map]; exact h1,by rw[List.length_map]; omega,fun y hy=>?_,fun e=>absurd e h3⟩
  obtain⟨k,_,rfl⟩:=List.mem_map.mp hy
  exact gd_int _
 |vein ss cs=>
  obtain⟨h2,h4,_⟩:=h
  exact pf_vein (by rw[List.length_map]; omega) (by rw[List.length_map]; omega) (in2_i ss) (in2_c cs)
theorem cut_hd(x:D)(ds:List D)(n:Nat)(h:n≤ds.length):cut (x::ds) none (some ((n+1:Nat):Int))=x::ds.take n:=by
 rw[cut_take _ (n+1) (by simp; omega)]
 rfl
theorem cut_tl(x:D)(ds:List D)(n:Nat)(h:n≤ds.length):cut (x::ds) (some ((n+1:Nat):Int)) none=ds.drop n:=by
 rw[cut_drop _ (n+1) (by simp; omega)]
 rfl
theorem nl_take{ds:List D}(h:∀ y∈ds,Gd y)(x:List Nat)(n:Nat):noLocs (tD x::ds.take n)=true:=by
 rw[noLocs_cons,nl_gd fun y hy=>h y (List.mem_of_mem_take hy)]; rfl
theorem nl_drop{ds:List D}(h:∀ y∈ds,Gd y)(n:Nat):noLocs (ds.drop n)=true:=nl_gd fun y hy=>h y (List.mem_of_mem_drop hy)
noncomputable abbrev bT'(ns:List Int)(k:Int)(x:List Nat)(ds:List D)(y:Int)(v:D)(a b:Option D):Sl:=[some (sD ns),some (.int k),some (.tup (tD x::ds)),some (.int y),some v,a,b]
section
variable {ns:List Int}{m:Nat}{k:Int}{x:List Nat}{ds:List D}{y:Int}{v:D}{st:Store}
theorem hd_ev(n:Nat)(hg:∀ y∈ds,Gd y)(q:Nat)(h:q≤ds.length)(b:Option D):(rn fns m (n+4)).ev (bT' ns k x ds y v (some (.int ((q+1:Nat):Int))) b) st (.gc (.sli (.var 2) none (some (.var 5))))=some (.tup (tD x::ds.take q),st):=by
 have c:=gc_tcut (c:=callD fns m) (n:=n+2) (τ:=bT' ns k x ds y v (some (.int ((q+1:Nat):Int))) b) (st:=st) (a:=.var 2) (lo:=none) (hi:=some (.var 5)) (xs:=tD x::ds) (l:=none) (h:=some ((q+1:Nat):Int)) rfl rfl rfl (by rw[cut_hd _ _ _ h]; exact nl_take hg x q)
 rw[cut_hd _ _ _ h]at c
 exact c
theorem tl_ev(n:Nat)(hg:∀ y∈ds,Gd y)(q:Nat)(h:q≤ds.length)(b:Option D):(rn fns m (n+4)).ev (bT' ns k x ds y v (some (.int ((q+1:Nat):Int))) b) st (.gc (.sli (.var 2) (some (.var 5)) none))=some (.tup (ds.drop q),st):=by
 have c:=gc_tcut (c:=callD fns m) (n:=n+2) (τ:=bT' ns k x ds y v (some (.int ((q+1:Nat):Int))) b) (st:=st) (a:=.var 2) (lo:=some (.var 5)) (hi:=none) (xs:=tD x::ds) (l:=some ((q+1:Nat):Int)) (h:=none) rfl rfl rfl (by rw[cut_tl _ _ _ h]; exact nl_drop hg q)
 rw[cut_tl _ _ _ h]at c
 exact c
theorem tl1_ev(n:Nat)(hg:∀ y∈ds,Gd y)(q:Nat)(h:q+1≤ds.length)(b:Option D):(rn fns m (n+4)).ev (bT' ns k x ds y v (some (.int ((q+1:Nat):Int))) b) st (.gc (.sli (.var 2) (some (.bin .Add (.var 5) (.lit (.int 1)))) none))=some (.tup (ds.drop (q+1)),st):=by
 have c:=gc_tcut (c:=callD fns m) (n:=n+2) (τ:=bT' ns k x ds y v (some (.int ((q+1:Nat):Int))) b) (st:=st) (a:=.var 2) (lo:=some (.bin .Add (.var 5) (.lit (.int 1)))) (hi:=none) (xs:=tD x::ds) (l:=some ((q+1+1:Nat):Int)) (h:=none) rfl (by
  have:part (runK (callD fns m) (n+2)) (bT' ns k x ds y v (some (.int ((q+1:Nat):Int))) b) st (some (.bin .Add (.var 5) (.lit (.int 1))))=some (some (((q+1:Nat):Int)+1),st):=rfl
  rw[this]; rfl) rfl (by rw[cut_tl _ _ _ h]; exact nl_drop hg (q+1))
 rw[cut_tl _ _ _ h]at c
 exact c
theorem rest_ev(n:Nat)(hg:∀ y∈ds,Gd y)(a b:Option D):(rn fns m (n+4)).ev (bT' ns k x ds y v a b) st (.gc (.sli (.var 2) (some (.lit (.int 1))) none))=some (.tup ds,st):=by
 have c:=gc_tcut (c:=callD fns m) (n:=n+2) (τ:=bT' ns k x ds y v a b) (st:=st) (a:=.var 2) (lo:=some (.lit (.int 1))) (hi:=none) (xs:=tD x::ds) (l:=some ((0+1:Nat):Int)) (h:=none) rfl rfl rfl (by rw[cut_tl _ _ 0 (Nat.zero_le _)]; exact nl_drop hg 0)
 rw[cut_tl _ _ 0 (Nat.zero_le _)]at c
 exact c
theorem one_ev(n:Nat)(a b:Option D):(rn fns m (n+4)).ev (bT' ns k x ds y v a b) st (.gc (.sli (.var 2) none (some (.lit (.int 1)))))=some (.tup [tD x],st):=by
 have c:=gc_tcut (c:=callD fns m) (n:=n+2) (τ:=bT' ns k x ds y v a b) (st:=st) (a:=.var 2) (lo:=none) (hi:=some (.lit (.int 1))) (xs:=tD x::ds) (l:=none) (h:=some ((0+1:Nat):Int)) rfl rfl rfl (by rw[cut_hd _ _ 0 (Nat.zero_le _)]; rfl)
 rw[cut_hd _ _ 0 (Nat.zero_le _)]at c
 exact c
end
section
variable {ns:List Int}(hn:ns.length≤63){m:Nat}
include hn
theorem bent_ok(hm:4≤m)(k:Int)(f:D)(hf:Pf f):∃ v,Ft v∧∀ st,callD fns m 29 [sD ns,.int k,f] st=some (v,st):=by
 obtain⟨m,rfl⟩:∃ q,m=q+1:=⟨m - 1,by omega⟩
 obtain⟨x,ds,rfl,hd1,hd2,hg,hve⟩:=hf
 obtain⟨y,y0,y1,ey⟩:=dex hn (N:=m) (by omega) k 70 9 (by omega) (by omega) (by omega)
 obtain⟨v,hv,ev⟩:=thing_ok hn (m:=m) (by omega) k 72 (by omega) (by omega)
 obtain⟨p,p1,ep⟩:=dexN hn (m:=m) (by omega) k 71 (by omega) (by omega) (ds.length+1) (by omega)
 obtain⟨q,q1,eq⟩:=dexN hn (m:=m) (by omega) k 71 (by omega) (by omega) ds.length (by omega)
 have nv:noLoc v=true:=flat_nl 8 v hv.1
 suffices h:∃ v,Ft v∧∀ st,exs (stepEx (rn fns m (29+1))) b_law_bent_fact [some (sD ns),some (.int k),some (.tup (tD x::ds)),none,none,none,none] st=some (.rt v,st) by
  obtain⟨v,h1,h2⟩:=h
  exact⟨v,h1,fun st=>call_of (29+1) (F:=f_law_bent_fact) rfl rfl rfl (h2 st)⟩
 have pre:∀ st,exs (stepEx (rn fns m (29+1))) b_law_bent_fact [some (sD ns),some (.int k),some (.tup (tD x::ds)),none,none,none,none] st=exs (stepEx (rn fns m (29+1))) (b_law_bent_fact.drop 2) (bT' ns k x ds y v none none) st:=fun st=>by
  unfold b_law_bent_fact
  refine(exs_cons (τ':=[some (sD ns),some (.int k),some (.tup (tD x::ds)),some (.int y),none,none,none]) (s':=st) (stS (gc_call (n:=27) (ds:=[sD ns,.int k,.int 70,.int 9]) rfl (ey st) rfl) rfl)).trans ?_
  exact exs_cons (stS (gc_call (n:=27) (ds:=[sD ns,.int k,.int 72]) rfl (ev st) nv) rfl)
 have tt:∀ (st:Store) (a b:Option D) (z:Int),(rn fns m (29+1)).tst (bT' ns k x ds y v a b) st (.cmp .Eq (.var 3) (.lit (.int z)))=some (y==z,st):=fun st a b z=>tst_i (n:=28) rfl
 have lf:∀ (n:Nat) (st:Store) (a b:Option D),(rn fns m (n+2)).ev (bT' ns k x ds y v a b) st (.bcall .len [(.var 2)])=some (.int ((ds.length+1:Nat):Int),st):=fun n st a b=>len_tup (n:=n) (i:=2) (ds:=tD x::ds) rfl
 have v4:∀ (n:Nat) (st:Store) (a b:Option D),(rn fns m (n+2)).ev (bT' ns k x ds y v a b) st (.tup [(.var 4)])=some (.tup [v],st):=fun n st a b=>rfl
 have dl:∀ (n:Nat) (st:Store) (a b:Option D) (j:Int) (e:E) (L w:Nat),(rn fns m (n+4)).ev (bT' ns k x ds y v a b) st e=some (.int (L:Int),st)→callD fns m 9 [sD ns,.int k,.int j,.int (L:Int)] st=some (.int (w:Int),st)→(rn fns m (n+7)).ev (bT' ns k x ds y v a b) st (.bin .Add (.lit (.int 1)) (.gc (.call 9 [(.var 0),(.var 1),(.lit (.int j)),e])))=some (.int ((w+1:Nat):Int),st):=fun n st a b j e L w he hv=>by
  have g:=gc_call (c:=callD fns m) (n:=n+3) (τ:=bT' ns k x ds y v a b) (st:=st) (f:=9) (es:=[(.var 0),(.var 1),(.lit (.int j)),e]) (ds:=[sD ns,.int k,.int j,.int (L:Int)]) (by
    have x0:(runK (callD fns m) (n+3+1)).ev (bT' ns k x ds y v a b) st (.var 0)=some (sD ns,st):=rfl
    have x1:(runK (callD fns m) (n+3+1)).ev (bT' ns k x ds y v a b) st (.var 1)=some (.int k,st):=rfl
    have x2:(runK (callD fns m) (n+3+1)).ev (bT' ns k x ds y v a b) st (.lit (.int j))=some (.int j,st):=rfl
    have x3:(runK (callD fns m) (n+3+1)).ev (bT' ns k x ds y v a b) st e=some (.int (L:Int),st):=he
    simp only[evs,x0,x1,x2,x3,Option.bind_some]) hv rfl
  refine(evB (n:=n+6) (a:=.int 1) (b:=.int (w:Int)) rfl g (pA _ _ _)).trans ?_
  congr 3
  omega
 by_cases h0:y=0
 ·have hp:p≤ds.length:=by omega
  refine⟨.tup ((tD x::ds.take p)++[v]++ds.drop p),⟨x,ds.take p++[v]++ds.drop p,rfl,?_,fun z hz=>?_⟩,fun st=>(pre st).trans ?_⟩
  ·simp only[List.length_append,List.length_take,List.length_drop,List.length_cons,List.length_nil]; omega
  ·rw[List.mem_append,List.mem_append,List.mem_singleton]at hz
   rcases hz with (hz|rfl)|hz
   ·exact hg z (List.mem_of_mem_take hz)
   ·exact hv
   ·exact hg z (List.mem_of_mem_drop hz)
  ·have t:=tt st none none 0
   rw[h0,beq_self_eq_true]at t
   unfold b_law_bent_fact
   subst h0
   refine exs_ite_t (n:=29) t ?_
   refine(exs_cons (τ':=bT' ns k x ds 0 v (some (.int ((p+1:Nat):Int))) none) (s':=st) (stS (ev_up (dl 20 st none none 71 (.bcall .len [(.var 2)]) (ds.length+1) p (lf 22 st none none) (ep st)) (by omega)) rfl)).trans ?_
   refine ret_ok (evB (n:=28) (a:=.tup ((tD x::ds.take p)++[v])) (b:=.tup (ds.drop p)) (evB (n:=27) (a:=.tup (tD x::ds.take p)) (b:=.tup [v]) (hd_ev 23 hg p hp none) (v4 25 st _ _) (add_tup st (by simp) ?_)) (tl_ev 24 hg p hp none) (add_tup st (by simp) ?_))
   ·simp only[List.length_append,List.length_take,List.length_drop,List.length_cons,List.length_nil]; omega
   ·simp only[List.length_append,List.length_take,List.length_drop,List.length_cons,List.length_nil]; omega
 have pre2:∀ st,exs (stepEx (rn fns m (29+1))) (b_law_bent_fact.drop 2) (bT' ns k x ds y v none none) st=exs (stepEx (rn fns m (29+1))) (b_law_bent_fact.drop 4) (bT' ns k x ds y v (some (.int ((q+1:Nat):Int))) none) st:=fun st=>by
  unfold b_law_bent_fact
  have t:=tt st none none 0
  rw[beq_eq_false_iff_ne.mpr h0]at t
  refine(exs_ite_f (n:=29) t).trans ?_
  have l1:(rn fns m 25).ev (bT' ns k x ds y v none none) st (.bin .Sub (.bcall .len [(.var 2)]) (.lit (.int 1)))=some (.int (ds.length:Int),st):=by
   refine(evB (n:=24) (a:=.int ((ds.length+1:Nat):Int)) (b:=.int 1) (lf 22 st none none) rfl rfl).trans ?_
   congr 3
   omega
  exact exs_cons (stS (ev_up (dl 21 st none none 71 (.bin .Sub (.bcall .len [(.var 2)]) (.lit (.int 1))) ds.length q l1 (eq st)) (by omega)) rfl)
 by_cases h1:y=1
 ·refine⟨.tup ((tD x::ds.take q)++ds.drop (q+1)),⟨x,ds.take q++ds.drop (q+1),rfl,?_,fun z hz=>?_⟩,fun st=>((pre st).trans (pre2 st)).trans ?_⟩
  ·simp only[List.length_append,List.length_take,List.length_drop]; omega
  ·rw[List.mem_append]at hz
   rcases hz with hz|hz
   ·exact hg z (List.mem_of_mem_take hz)
   ·exact hg z (List.mem_of_mem_drop hz)
  ·have t:=tt st (some (.int ((q+1:Nat):Int))) none 1
   rw[h1,beq_self_eq_true]at t
   unfold b_law_bent_fact
   subst h1
   refine exs_ite_t (n:=29) t (ret_ok (n:=29) ?_)
   refine evB (n:=28) (a:=.tup (tD x::ds.take q)) (b:=.tup (ds.drop (q+1))) (hd_ev 24 hg q (by omega) none) (tl1_ev 24 hg q (by omega) none) (add_tup st (by simp) ?_)
   simp only[List.length_take,List.length_drop,List.length_cons]; omega
 by_cases h2:y=2
 ·refine⟨.tup ((tD x::ds.take q)++[v]++ds.drop (q+1)),⟨x,ds.take q++[v]++ds.drop (q+1),rfl,?_,fun z hz=>?_⟩,fun st=>((pre st).trans (pre2 st)).trans ?_⟩
  ·simp only[List.length_append,List.length_take,List.length_drop,List.length_cons,List.length_nil]; omega
  ·rw[List.mem_append,List.mem_append,List.mem_singleton]at hz
   rcases hz with (hz|rfl)|hz
   ·exact hg z (List.mem_of_mem_take hz)
   ·exact hv
   ·exact hg z (List.mem_of_mem_drop hz)
  ·have ta:=tt st (some (.int ((q+1:Nat):Int))) none 1
   rw[beq_eq_false_iff_ne.mpr h1]at ta
   have t:=tt st (some (.int ((q+1:Nat):Int))) none 2
   rw[h2,beq_self_eq_true]at t
   unfold b_law_bent_fact
   subst h2
   refine(exs_ite_f (n:=29) ta).trans (exs_ite_t (n:=29) t (ret_ok (n:=29) ?_))
   refine evB (n:=28) (a:=.tup ((tD x::ds.take q)++[v])) (b:=.tup (ds.drop (q+1))) (evB (n:=27) (a:=.tup (tD x::ds.take q)) (b:=.tup [v]) (hd_ev 23 hg q (by omega) none) (v4 25 st _ _) (add_tup st (by simp) ?_)) (tl1_ev 24 hg q (by omega) none) (add_tup st (by simp) ?_)
   ·simp only[List.length_append,List.length_take,List.length_drop,List.length_cons,List.length_nil]; omega
   ·simp only[List.length_append,List.length_take,List.length_drop,List.length_cons,List.length_nil]; omega
 have hW:∀ st,(rn fns m (29+1)).ev (bT' ns k x ds y v (some (.int ((q+1:Nat):Int))) none) st (.gc (.lst [(.lit (.str "Vein")),(.lit (.str "veins")),(.lit (.str "")),(.lit (.str "work ")),(.lit (.str "give")),(.lit (.str "stake")),(.lit (.str "work")),(.lit (.str "vein")),(.lit (.str "join")),(.lit (.str "sell")),(.lit (.str "part")),(.lit (.str "dig")),(.lit (.str "pay"))]))=some (.lst (bwords.map tD),st):=fun st=>by
  rw[xWords.1,xWords.2.1,xWords.2.2,xE,xGive,xStake,xWork,xVein,xJoin,xSell,xPart,xDig,xPay]
  exact gc_lit (n:=28) (ds:=bwords.map tD) rfl (by simp[bwords]) (nl_tD bwords)
 have hbl:bwords.length=13:=rfl
 generalize bwords=W at hW hbl
 have pre3:∀ st,exs (stepEx (rn fns m (29+1))) (b_law_bent_fact.drop 4) (bT' ns k x ds y v (some (.int ((q+1:Nat):Int))) none) st=exs (stepEx (rn fns m (29+1))) (b_law_bent_fact.drop 7) (bT' ns k x ds y v (some (.int ((q+1:Nat):Int))) (some (.lst (W.map tD)))) st:=fun st=>by
  have ta:=tt st (some (.int ((q+1:Nat):Int))) none 1
  rw[beq_eq_false_iff_ne.mpr h1]at ta
  have tb:=tt st (some (.int ((q+1:Nat):Int))) none 2
  rw[beq_eq_false_iff_ne.mpr h2]at tb
  unfold b_law_bent_fact
  exact(exs_ite_f (n:=29) ta).trans ((exs_ite_f (n:=29) tb).trans (exs_cons (stS (hW st) rfl)))
 by_cases h3:y=3
 ·obtain⟨b,b0,b1,eb⟩:=dex hn (N:=m) (by omega) k 74 13 (by omega) (by omega) (by omega)
  refine⟨.tup ([tD (W.getD b.toNat [])]++ds),⟨W.getD b.toNat [],ds,rfl,by omega,hg⟩,fun st=>((pre st).trans ((pre2 st).trans (pre3 st))).trans ?_⟩
  have t:=tt st (some (.int ((q+1:Nat):Int))) (some (.lst (W.map tD))) 3
  rw[h3,beq_self_eq_true]at t
  unfold b_law_bent_fact
  subst h3
  refine exs_ite_t (n:=29) t (ret_ok (n:=29) ?_)
  have g:=gc_call (c:=callD fns m) (n:=23) (τ:=bT' ns k x ds 3 v (some (.int ((q+1:Nat):Int))) (some (.lst (W.map tD)))) (st:=st) (f:=9) (es:=[(.var 0),(.var 1),(.lit (.int 74)),(.lit (.int 13))]) (ds:=[sD ns,.int k,.int 74,.int 13]) rfl (eb st) rfl
  have ix:=evX (c:=callD fns m) (n:=26) (τ:=bT' ns k x ds 3 v (some (.int ((q+1:Nat):Int))) (some (.lst (W.map tD)))) (st:=st) (a:=.var 6) (x:=.lst (W.map tD)) rfl g (ix_lst tD W [] b b0 (by omega) st)
  have tp:(rn fns m 28).ev (bT' ns k x ds 3 v (some (.int ((q+1:Nat):Int))) (some (.lst (W.map tD)))) st (.tup [(.idx (.var 6) (.gc (.call 9 [(.var 0),(.var 1),(.lit (.int 74)),(.lit (.int 13))])))])=some (.tup [tD (W.getD b.toNat [])],st):=by
   have ix':(runK (callD fns m) 27).ev _ _ _=_:=ix
   rw[ev_k]
   simp only[stepEv,evs,ix',Option.bind_some]
   rfl
  exact evB (n:=28) tp (rest_ev 24 hg _ _) (add_tup st (by simp) (by simp; omega))
 have pre4:∀ st,exs (stepEx (rn fns m (29+1))) (b_law_bent_fact.drop 7) (bT' ns k x ds y v (some (.int ((q+1:Nat):Int))) (some (.lst (W.map tD)))) st=exs (stepEx (rn fns m (29+1))) (b_law_bent_fact.drop 8) (bT' ns k x ds y v (some (.int ((q+1:Nat):Int))) (some (.lst (W.map tD)))) st:=fun st=>by
  have t:=tt st (some (.int ((q+1:Nat):Int))) (some (.lst (W.map tD))) 3
  rw[beq_eq_false_iff_ne.mpr h3]at t
  unfold b_law_bent_fact
  exact exs_ite_f (n:=29) t
 have tw:∀ st,(rn fns m (29+1)).tst (bT' ns k x ds y v (some (.int ((q+1:Nat):Int))) (some (.lst (W.map tD)))) st (.cmp .Eq (.idx (.var 2) (.lit (.int 0))) (.lit (.str "vein")))=some (x==wVein,st):=fun st=>by
  rw[xVein]
  exact eqw (n:=27) (i:=2) rfl
 by_cases hx:x=wVein
 ·obtain⟨a,b,rfl,la,lb,i1,i2⟩:=hve hx
  subst hx
  obtain⟨u,hu,eu⟩:=bent_vein hn (m:=m) (by omega) k y a b la lb i1 i2
  refine⟨u,hu,fun st=>((pre st).trans ((pre2 st).trans ((pre3 st).trans (pre4 st)))).trans ?_⟩
  have t:=tw st
  rw[beq_self_eq_true]at t
  unfold b_law_bent_fact
  exact exs_ite_t (n:=29) t (ret_ok (n:=29) (eu st))
 ·obtain⟨b,b0,b1,eb⟩:=dex hn (N:=m) (by omega) k 75 40 (by omega) (by omega) (by omega)
  obtain⟨B,rfl⟩:∃ B:Nat,b=(B:Int):=⟨b.toNat,by omega⟩
  refine⟨.tup ([tD x]++(List.range B).map fun _=>.int 0),⟨x,(List.range B).map fun _=>.int 0,rfl,by simp; omega,fun z hz=>?_⟩,fun st=>((pre st).trans ((pre2 st).trans ((pre3 st).trans (pre4 st)))).trans ?_⟩
  ·obtain⟨_,_,rfl⟩:=List.mem_map.mp hz
   exact gd_int 0
  have t:=tw st
  rw[beq_eq_false_iff_ne.mpr hx]at t
  unfold b_law_bent_fact
  refine(exs_ite_f (n:=29) t).trans (ret_ok ?_)
  have g:=gc_call (c:=callD fns m) (n:=20) (τ:=bT' ns k x ds y v (some (.int ((q+1:Nat):Int))) (some (.lst (W.map tD)))) (st:=st) (f:=9) (es:=[(.var 0),(.var 1),(.lit (.int 75)),(.lit (.int 40))]) (ds:=[sD ns,.int k,.int 75,.int 40]) rfl (eb st) rfl
  have cp:=gc_comp (c:=callD fns m) (n:=23) (τ:=bT' ns k x ds y v (some (.int ((q+1:Nat):Int))) (some (.lst (W.map tD)))) (st:=st) (it:=.rng1 (.gc (.call 9 [(.var 0),(.var 1),(.lit (.int 75)),(.lit (.int 40))]))) (elt:=.lit (.int 0)) (sr:=[none]) (s:=.rng 0 B) (rest:=[]) (List.range B) (fun(i:Nat)=>.int ((0:Int)+i)) (fun _=>.int 0) (src_rng g (by omega)) (fun i=>at_rng 0 _ i) (by simp[Src.size]) rfl (by simp; omega) (fun _ _=>rfl) (fun _ _=>rfl)
  have tp:(rn fns m 26).ev (bT' ns k x ds y v (some (.int ((q+1:Nat):Int))) (some (.lst (W.map tD)))) st (.bcall .tuple [(.gc (.comp (.var 0) (.rng1 (.gc (.call 9 [(.var 0),(.var 1),(.lit (.int 75)),(.lit (.int 40))]))) none (.lit (.int 0)) [none]))])=some (.tup ((List.range B).map fun _=>.int 0),st):=by
   have cp':(runK (callD fns m) 25).ev _ _ _=_:=cp
   rw[ev_k]
   simp only[stepEv,evs,cp',Option.bind_some,bfun,bTuple,seqAt,Option.map_some]
  exact ev_up (evB (n:=26) (one_ev 22 _ _) tp (add_tup st (by simp) (by simp; omega))) (by omega)
end
noncomputable abbrev lT(ns:List Int)(w t d:Int)(f:D)(a b:Option D):Sl:=[some (sD ns),some (zD w t d),some f,a,b]
section
variable {ns:List Int}(hn:ns.length≤63)
include hn
theorem many_ok(w t d:Int)(w0:1≤w)(w1:w≤24)(t0:1≤t)(t1:t≤24)(d0:0≤d)(d1:d≤12)(f:D)(hf:Pf f):
  ∃ f' a b,Pf f'∧stepEx (rn fns 19 (29+1)) (lT ns w t d f none none) [] (.ite (.cmp .Eq (.gc (.call 9 [(.var 0),(.lit (.int 2)),(.lit (.int 7)),(.lit (.int 6))])) (.lit (.int 0))) [.set (.var 3) (.bcall .min [(.lit (.int 18)),(.bin .Mult (.idx (.var 1) (.lit (.int 0))) (.idx (.var 1) (.lit (.int 1))))]),.set (.var 4) (.gc (.comp (.var 0) (.rng1 (.bin .Add (.lit (.int 1)) (.gc (.call 9 [(.var 0),(.lit (.int 2)),(.lit (.int 8)),(.var 3)])))) none (.tup [(.bin .Mod (.var 0) (.idx (.var 1) (.lit (.int 0)))),(.bin .FloorDiv (.var 0) (.idx (.var 1) (.lit (.int 0))))]) [none,some 1])),.set (.var 2) (.tup [(.lit (.str "vein")),(.gc (.call 13 [(.var 0),(.lit (.int 1)),(.lit (.int 0)),(.idx (.var 1) (.lit (.int 2)))])),(.bcall .tuple [(.var 4)])])] [])=some (.nx (lT ns w t d f' a b),[]):=by
 obtain⟨y,y0,y1,ey⟩:=dex hn (N:=19) (by omega) 2 7 6 (by decide) (by decide) (by decide)
 have tt:=tst_i (c:=callD fns 19) (n:=28) (τ:=lT ns w t d f none none) (st:=[]) (a:=.gc (.call 9 [(.var 0),(.lit (.int 2)),(.lit (.int 7)),(.lit (.int 6))])) (x:=y) (y:=0) (gc_call (n:=26) (ds:=[sD ns,.int 2,.int 7,.int 6]) rfl (ey []) rfl)
 by_cases h:y=0
 ·rw[h,beq_self_eq_true]at tt
  obtain⟨ss,hs2,es⟩:=steps_ok hn (m:=19) (by omega) 1 0 d (by omega) (by omega) d0 d1
  have wt:(1:Int)≤w*t∧w*t≤576:=by
   constructor
   ·have:=Int.mul_le_mul w0 t0 (by omega) (by omega)
    omega
   ·have:=Int.mul_le_mul w1 t1 (by omega) (by omega)
    omega
  obtain⟨c,c0,c1,ec⟩:∃ c:Int,1≤c∧c≤18∧(if w*t<18 then w*t else 18)=c:=⟨_,by split<;>omega,by split<;>omega,rfl⟩
  have mu:(rn fns 19 27).ev (lT ns w t d f none none) [] (.bin .Mult (.idx (.var 1) (.lit (.int 0))) (.idx (.var 1) (.lit (.int 1))))=some (.int (w*t),[]):=by
   refine evB (n:=26) (a:=.int w) (b:=.int t) rfl rfl ?_
   simp only[binop]
   rw[if_pos (mulOk_l (by omega) (by omega))]
  have e3:(rn fns 19 28).ev (lT ns w t d f none none) [] (.bcall .min [(.lit (.int 18)),(.bin .Mult (.idx (.var 1) (.lit (.int 0))) (.idx (.var 1) (.lit (.int 1))))])=some (.int c,[]):=by
   have l:(rn fns 19 27).ev (lT ns w t d f none none) [] (.lit (.int 18))=some (.int 18,[]):=rfl
   rw[ev_k]
   simp only[stepEv,evs,l,mu,Option.bind_some,bfun,bMin,ec]
  obtain⟨v,v0,v1,ev⟩:=dex hn (N:=19) (by omega) 2 8 c (by omega) (by omega) (by omega)
  obtain⟨B,hB⟩:∃ B:Nat,1+v=(B:Int):=⟨(1+v).toNat,by omega⟩
  have g:=gc_call (c:=callD fns 19) (n:=22) (τ:=lT ns w t d f (some (.int c)) none) (st:=[]) (f:=9) (es:=[(.var 0),(.lit (.int 2)),(.lit (.int 8)),(.var 3)]) (ds:=[sD ns,.int 2,.int 8,.int c]) rfl (ev []) rfl
  have g2:(runK (callD fns 19) 26).ev (lT ns w t d f (some (.int c)) none) [] (.bin .Add (.lit (.int 1)) (.gc (.call 9 [(.var 0),(.lit (.int 2)),(.lit (.int 8)),(.var 3)])))=some (.int (B:Int),[]):=by
   rw[← hB]
   exact evB (n:=25) (a:=.int 1) (b:=.int v) rfl g (pA _ _ _)
  have cp:=gc_comp (c:=callD fns 19) (n:=26) (τ:=lT ns w t d f (some (.int c)) none) (st:=[]) (it:=.rng1 (.bin .Add (.lit (.int 1)) (.gc (.call 9 [(.var 0),(.lit (.int 2)),(.lit (.int 8)),(.var 3)])))) (elt:=.tup [(.bin .Mod (.var 0) (.idx (.var 1) (.lit (.int 0)))),(.bin .FloorDiv (.var 0) (.idx (.var 1) (.lit (.int 0))))]) (sr:=[none,some 1]) (s:=.rng 0 B) (rest:=[some (zD w t d)]) (List.range B) (fun(i:Nat)=>.int ((0:Int)+i)) (fun(i:Nat)=>.tup [.int ((0+(i:Int)) % w),.int ((0+(i:Int)) / w)]) (src_rng g2 (by omega)) (fun i=>at_rng 0 _ i) (by simp[Src.size]) rfl (by simp; omega) (fun _ _=>rfl) (fun i hi=>by
   have a1:(runK (callD fns 19) 25).ev [some (.int ((0:Int)+i)),some (zD w t d)] [] (.bin .Mod (.var 0) (.idx (.var 1) (.lit (.int 0))))=some (.int ((0+(i:Int)) % w),[]):=evB (n:=24) (a:=.int (0+(i:Int))) (b:=.int w) rfl rfl (pMod _ (by omega))
   have a2:(runK (callD fns 19) 25).ev [some (.int ((0:Int)+i)),some (zD w t d)] [] (.bin .FloorDiv (.var 0) (.idx (.var 1) (.lit (.int 0))))=some (.int ((0+(i:Int)) / w),[]):=evB (n:=24) (a:=.int (0+(i:Int))) (b:=.int w) rfl rfl (pDiv _ (by omega) (by omega))
   rw[ev_k]
   simp only[stepEv,evs,a1,a2,Option.bind_some]
   rfl)
  obtain⟨cs,hc1,hc2,hc3⟩:∃ cs:List D,cs.length<100∧(∀ y∈cs,In2 y)∧(List.range B).map (fun(i:Nat)=>D.tup [.int ((0+(i:Int)) % w),.int ((0+(i:Int)) / w)])=cs:=⟨_,by simp; omega,fun y hy=>by
   obtain⟨i,_,rfl⟩:=List.mem_map.mp hy
   exact .inr ⟨_,_,rfl⟩,rfl⟩
  rw[hc3]at cp
  refine⟨.tup [tD wVein,.tup (ss.map D.int),.tup cs],some (.int c),some (.lst cs),pf_vein (by rw[List.length_map]; omega) hc1 (in2_i ss) hc2,(stepEx_ite_t (st':=[]) tt).trans ?_⟩
  rw[ex_k,xVein]
  refine(exs_cons (τ':=lT ns w t d f (some (.int c)) none) (s':=[]) (stS (ev_up e3 (by omega)) rfl)).trans ?_
  refine(exs_cons (τ':=lT ns w t d f (some (.int c)) (some (.lst cs))) (s':=[]) (stS (ev_up cp (by omega)) rfl)).trans ?_
  have s:=gc_call (c:=callD fns 19) (n:=25) (τ:=lT ns w t d f (some (.int c)) (some (.lst cs))) (st:=[]) (f:=13) (es:=[(.var 0),(.lit (.int 1)),(.lit (.int 0)),(.idx (.var 1) (.lit (.int 2)))]) (ds:=[sD ns,.int 1,.int 0,.int d]) rfl (es []) (by rw[noLoc_tup]; exact iN ss)
  have s1:(runK (callD fns 19) 28).ev (lT ns w t d f (some (.int c)) (some (.lst cs))) [] (.lit (.str (mk wVein)))=some (tD wVein,[]):=rfl
  have s2:(runK (callD fns 19) 28).ev (lT ns w t d f (some (.int c)) (some (.lst cs))) [] (.bcall .tuple [(.var 4)])=some (.tup cs,[]):=rfl
  have s':(runK (callD fns 19) 28).ev _ _ _=_:=s
  refine(exs_cons (τ':=lT ns w t d (.tup [tD wVein,.tup (ss.map D.int),.tup cs]) (some (.int c)) (some (.lst cs))) (s':=[]) (stS (d:=.tup [tD wVein,.tup (ss.map D.int),.tup cs]) ?_ rfl)).trans rfl
  show(runK (callD fns 19) (28+1)).ev _ _ _=_
  rw[ev_k]
  simp only[stepEv,evs,s1,s',s2,Option.bind_some]
  rfl
 ·rw[beq_eq_false_iff_ne.mpr h]at tt
  exact⟨f,none,none,hf,(stepEx_ite_f (st':=[]) tt).trans rfl⟩
end
theorem law_ok(ns:List Int)(hn:ns.length≤63):∃ st',callD fns 20 30 [.lst (ns.map D.int)] []=some (.bl true,st'):=by
 obtain⟨w,t,d,w0,w1,t0,t1,d0,d1,es⟩:=size_ok hn (m:=19) (by omega) 0
 obtain⟨f,hf,e2⟩:=some_ok hn (m:=19) (by omega) 1 w t d w0 w1 t0 t1 d0 d1 []
 obtain⟨f1,a,b,hf1,em⟩:=many_ok hn w t d w0 w1 t0 t1 d0 d1 (fD f) (pf_fact hf)
 obtain⟨v,hv,e3⟩:=bent_ok hn (m:=19) (by omega) 2 f1 hf1
 obtain⟨y,y0,y1,ey⟩:=dex hn (N:=19) (by omega) 2 9 5 (by decide) (by decide) (by decide)
 refine⟨[],call_of (29+1) (F:=f_law) rfl rfl rfl ?_⟩
 show exs (stepEx (rn fns 19 (29+1))) b_law [some (sD ns),none,none,none,none] []=_
 unfold b_law
 refine(exs_cons (τ':=[some (sD ns),some (zD w t d),none,none,none]) (s':=[]) (stS (gc_call (n:=27) (ds:=[sD ns,.int 0]) rfl (es []) rfl) rfl)).trans ?_
 refine(exs_cons (τ':=lT ns w t d (fD f) none none) (s':=[]) (stS (gc_call (n:=27) (ds:=[sD ns,.int 1,zD w t d]) rfl e2 (fD_nl f)) rfl)).trans ?_
 refine(exs_cons em).trans ?_
 obtain⟨v',hv',ev⟩:∃ v',Ft v'∧stepEx (rn fns 19 (29+1)) (lT ns w t d f1 a b) [] (.ite (.cmp .Gt (.gc (.call 9 [(.var 0),(.lit (.int 2)),(.lit (.int 9)),(.lit (.int 5))])) (.lit (.int 0))) [.set (.var 2) (.gc (.call 29 [(.var 0),(.lit (.int 2)),(.var 2)]))] [])=some (.nx (lT ns w t d v' a b),[]):=by
  have tt:=tst_g (c:=callD fns 19) (n:=28) (τ:=lT ns w t d f1 a b) (st:=[]) (a:=.gc (.call 9 [(.var 0),(.lit (.int 2)),(.lit (.int 9)),(.lit (.int 5))])) (x:=y) (y:=0) (gc_call (n:=26) (ds:=[sD ns,.int 2,.int 9,.int 5]) rfl (ey []) rfl)
  by_cases h:y > 0
  ·rw[decide_eq_true h]at tt
   refine⟨v,hv,(stepEx_ite_t (st':=[]) tt).trans ?_⟩
   rw[ex_k]
   exact(exs_cons (τ':=lT ns w t d v a b) (s':=[]) (stS (gc_call (n:=26) (ds:=[sD ns,.int 2,f1]) rfl (e3 []) hv.nl) rfl)).trans rfl
  ·rw[decide_eq_false h]at tt
   exact⟨f1,hf1.ft,(stepEx_ite_f (st':=[]) tt).trans rfl⟩
 refine(exs_cons ev).trans ?_
 obtain⟨x,ds,rfl,hl,hg⟩:=hv'
 have hs:Sm2 ds:=Sm2.of (by omega) hg
 have k1:=sound_ok 13 w t d d0 d1 x ds hs
 have k2:=law_sound_ok 16 w t d d0 d1 x ds hs
 have k3:=same_eq hSame (k:=0) (d:=.bl (soundB w t d x ds)) .bl 19 [] (by omega)
 have g1:(rn fns 19 29).ev (lT ns w t d (.tup (tD x::ds)) a b) [] (.gc (.call 8 [(.var 1),(.var 2)]))=some (.bl (soundB w t d x ds),[]):=gc_call (n:=26) (ds:=[zD w t d,.tup (tD x::ds)]) rfl k1 rfl
 have g2:(rn fns 19 29).ev (lT ns w t d (.tup (tD x::ds)) a b) [] (.gc (.call 25 [(.var 1),(.var 2)]))=some (.bl (soundB w t d x ds),[]):=gc_call (n:=26) (ds:=[zD w t d,.tup (tD x::ds)]) rfl k2 rfl
 refine ret_ok ?_
 rw[ev_k]
 simp only[stepEv,evs,g1,g2,Option.bind_some,call_k,k3]
end K05
end
section
namespace MS
open PySem PySem.Spec PyProof.Rows L2
theorem noFill_tuple_mul:fillsNumberSlot (.type "tuple") "mul" = pure false:=
 PySem.fillsNumberSlot_seq (id:="tuple.__mul__") (r:=some (.builtin "tuple.__rmul__")) F.slot_tuple_mul.lookup (by decide +kernel) F.slot_tuple_rmul.lookup (by decide +kernel)
theorem repeat_tuple:seqRepeat? (.type "tuple")=pure (some (.builtin "tuple.__mul__")):=by
 unfold seqRepeat?
 rw[PySem.seqSlot_of (T:="tuple") (name:="__mul__") (id:="tuple.__mul__") F.slot_tuple_mul.lookup (by decide +kernel),PySem.seqSlot_of (T:="tuple") (name:="__rmul__") (id:="tuple.__rmul__") F.slot_tuple_rmul.lookup (by decide +kernel)]
 rfl
theorem int_rmul_tuple(a:Int)(t:Tok)(l:Addr)(items:Array Value)(n:Nat)(dd:Option Addr)(sl:Array (Option Value)):
  Meets (Builtin.«int.__rmul__» ⟨[.int a t,.ref l],[]⟩) (fun _ R s=>s.heap.get? l=some { cls:=.type "tuple",dict:=dd,data:=.seq items n,slots:=sl }∧R (.ok (.ret Value.notImplemented)) s):=
 .of_wp fun prog w A R s h=>by obtain⟨hp,g,d,tk,os⟩:=s; obtain⟨hl,h⟩:=h; wp_walk; exact⟨_,rfl,h⟩
theorem tuple_mul_same(l:Addr)(items:Array Value)(n:Nat)(dd:Option Addr)(sl:Array (Option Value))(x:Int)(u:Tok)(h0:¬ (decide (x < -(2 ^ 63))||decide (x ≥ 2 ^ 63))=true)(h1:(items.isEmpty||x==1)=true):
  Meets (Builtin.«tuple.__mul__» ⟨[.ref l,.int x u],[]⟩) (fun _ R s=>s.heap.get? l=some { cls:=.type "tuple",dict:=dd,data:=.seq items n,slots:=sl }∧R (.ok (.ret (Value.ref l))) s):=
 .of_wp fun prog w A R s h=>by
  obtain⟨hp,g,d,tk,os⟩:=s; obtain⟨hl,h⟩:=h
  wp_walk
  simp only[if_neg h0]
  wp_walk
  exact⟨_,rfl,h⟩
theorem tuple_mul_none(l:Addr)(items:Array Value)(n:Nat)(dd:Option Addr)(sl:Array (Option Value))(x:Int)(u:Tok)(h0:¬ (decide (x < -(2 ^ 63))||decide (x ≥ 2 ^ 63))=true)(h1:¬ (items.isEmpty||x==1)=true)(h2:(decide (x≤0)||items.isEmpty)=true):
  Meets (Builtin.«tuple.__mul__» ⟨[.ref l,.int x u],[]⟩) (fun _ R s=>s.heap.get? l=some { cls:=.type "tuple",dict:=dd,data:=.seq items n,slots:=sl }∧R (.ok (.ret (Value.ref s.heap.objs.size))) { s with heap:=s.heap.push { cls:=.type "tuple",data:=.seq #[] } }):=
 .of_wp fun prog w A R s h=>by
  obtain⟨hp,g,d,tk,os⟩:=s; obtain⟨hl,h⟩:=h
  wp_walk
  simp only[if_neg h0]
  wp_walk
  exact⟨_,rfl,h⟩
theorem tuple_mul_more(l:Addr)(items:Array Value)(n:Nat)(dd:Option Addr)(sl:Array (Option Value))(x:Int)(u:Tok)(h0:¬ (decide (x < -(2 ^ 63))||decide (x ≥ 2 ^ 63))=true)(h1:¬ (items.isEmpty||x==1)=true)(h2:¬ (decide (x≤0)||items.isEmpty)=true)
  (h3:¬ ((items.size:Int)*x > (2 ^ 63 - 1) / 8)) (h4:¬ Builtin.Tuple.tupleTooMany ((items.size:Int)*x)=true) (h5:(List.foldl (fun x1 x2=>x1++x2) #[] (List.replicate x.toNat items)).size≤sizeLine) :
  Meets (Builtin.«tuple.__mul__» ⟨[.ref l,.int x u],[]⟩) (fun _ R s=>s.heap.get? l=some { cls:=.type "tuple",dict:=dd,data:=.seq items n,slots:=sl }∧R (.ok (.ret (Value.ref s.heap.objs.size))) { s with heap:=s.heap.push { cls:=.type "tuple",data:=.seq (List.foldl (fun x1 x2=>x1++x2) #[] (List.replicate x.toNat items)) } }):=
 .of_wp fun prog w A R s h=>by
  obtain⟨hp,g,d,tk,os⟩:=s; obtain⟨hl,h⟩:=h
  wp_walk
  simp only[if_neg h0]
  wp_walk
  simp only[if_neg h3]
  wp_walk
  exact⟨_,rfl,h⟩
noncomputable def rRepT(K:PySem.W.Frag):R2:=fun x y H Q=>∃ l k xs,x=.ref l∧y=.int k∧SqT K H l xs∧-(2 ^ 62)≤k∧k<2 ^ 62∧xs.length*k.toNat≤sizeLine∧
 (∀ ys,ys=(List.replicate k.toNat xs).flatten→(ys=xs→Q (.ref l) H)∧∀ p,H p=none→Q (.ref p) (upd H p (.tup ys)))
theorem op_repT{X:Cx}:OpR X (binaryOp .Mult) (rRepT X.K):=by
 intro pins s σ H x y v u Q I rx ry h
 obtain⟨l,k,xs,rfl,rfl,hq,k1,k2,hz,q⟩:=h
 cases rx
 obtain⟨t,rfl⟩:=ry
 obtain⟨its,r,hp,hz0⟩:=I.tuple hq
 obtain⟨⟨cls,dd,data,sl⟩,ho,hc,n,hd⟩:=id hp
 simp only at hc hd
 subst hc hd
 have hl:=r.length
 obtain⟨qs,qn⟩:=q _ rfl
 have f0:∀ m:Nat,List.foldl (fun x1 x2=>x1++x2) #[] (List.replicate m its.toArray)=(List.replicate m its).flatten.toArray:=fun m=>by
  have:=foldl_rep its m []
  rw[List.nil_append]at this
  exact this
 have h0:¬ (decide (k < -(2 ^ 63))||decide (k ≥ 2 ^ 63))=true:=by simp; omega
 refine wpAny_binaryOp_repeat_ref (T:="tuple") (U:="int") (by decide) ⟨_,ho,rfl⟩ (fun s'=>typeIs_int s' k t) noFill_tuple_mul F.fills_int_mul F.slot_int_rmul repeat_tuple F.slot_int_index.lookup
  (call_meets F.slot_int_rmul (typeIs_int s k t) F.entry_int_rmul (F.args_int_rmul_2 _ _) (int_rmul_tuple k t l its.toArray n dd sl) ⟨ho,rfl,⟨_,ho,rfl⟩,?_⟩)
 by_cases h1:(its.toArray.isEmpty||k==1)=true
 ·refine call_meets F.slot_tuple_mul ⟨_,ho,rfl⟩ F.entry_tuple_mul (F.args_tuple_mul_2 _ _) (tuple_mul_same l its.toArray n dd sl k t h0 h1) ⟨ho,?_⟩
  refine⟨.ref l,H,I,rfl,qs ?_⟩
  rw[Bool.or_eq_true]at h1
  rcases h1 with z|z
  ·have e1:its=[]:=by simpa using z
   have e2:xs=[]:=List.length_eq_zero_iff.mp (by rw[hl,e1]; rfl)
   rw[e2]
   simp
  ·have e1:k=1:=by simpa using z
   rw[e1]
   simp
 ·have hne:its≠[]:=fun z=>h1 (by rw[z]; rfl)
  by_cases h2:(decide (k≤0)||its.toArray.isEmpty)=true
  ·refine call_meets F.slot_tuple_mul ⟨_,ho,rfl⟩ F.entry_tuple_mul (F.args_tuple_mul_2 _ _) (tuple_mul_none l its.toArray n dd sl k t h0 h1 h2) ⟨ho,?_⟩
   have hk:k≤0:=by
    rw[Bool.or_eq_true]at h2
    rcases h2 with z|z
    ·simpa using z
    ·exact absurd (by simpa using z) hne
   have e0:k.toNat=0:=by omega
   refine⟨.ref _,_,I.laid (a:=s.heap.objs.size) (o:=.tup (List.replicate k.toNat xs).flatten) (t':=s.toks) (fun _ _ e=>Heap.get?_push_of_some _ e) (Nat.le_refl _) ?_,rfl,qn _ I.fresh⟩
   rw[e0]
   exact⟨Nat.zero_le _,[],.nil,IsTup.new s.heap _⟩
  ·have hk:0<k:=by
    simp at h2; omega
   have hmul:((its.toArray.size:Nat):Int)*k=((its.length*k.toNat:Nat):Int):=by
    rw[List.size_toArray,Int.natCast_mul]
    congr 1
    omega
   have hz':its.length*k.toNat≤sizeLine:=by rw[← hl]; exact hz
   have hsl:(sizeLine:Nat)<2 ^ 60:=by rw[sizeLine_eq]; decide
   refine call_meets F.slot_tuple_mul ⟨_,ho,rfl⟩ F.entry_tuple_mul (F.args_tuple_mul_2 _ _) (tuple_mul_more l its.toArray n dd sl k t h0 h1 h2 ?_ ?_ ?_) ⟨ho,?_⟩
   ·rw[hmul]; omega
   ·unfold Builtin.Tuple.tupleTooMany
    rw[hmul,decide_eq_true_eq]
    omega
   ·rw[f0,List.size_toArray,len_rep,Nat.mul_comm]; exact hz'
   ·refine⟨.ref _,_,I.laid (a:=s.heap.objs.size) (o:=.tup (List.replicate k.toNat xs).flatten) (t':=s.toks) (fun _ _ e=>Heap.get?_push_of_some _ e) (Nat.le_refl _) ?_,rfl,qn _ I.fresh⟩
    rw[f0]
    exact⟨by rw[len_rep,Nat.mul_comm]; exact hz,_,r.rep k.toNat,IsTup.new s.heap _⟩
section
variable {prog:Program}{w:World}{A:Around}{E:Value→Shared→Prop}{s:Shared}
theorem getItem_tuple_whole{t sl:Addr}{items:Array Value}{vl vu:Value}{lo hi:Option Int}{Q:Value→Shared→Prop}(ht:IsTup s.heap t items)(hs:s.heap.IsSliceOf sl vl vu .none)(pl:IsPart vl lo)(pu:IsPart vu hi)
  (hw:HT.sIx items.size 0 lo=0∧HT.sIx items.size items.size hi=items.size) (h:Q (.ref t) s):wpAny (model prog w) A (getItem (.ref t) (.ref sl)) Q E s:=by
 obtain⟨os,hos,hcs,hds⟩:=id hs
 have hTs:s.TypeIs (.ref sl) "slice":=⟨os,hos,hcs⟩
 unfold getItem
 try with_reducible refine wpAny_holding ?_
 first|refine wpAny_bind (wpAny_pure ?_)|skip
 refine wpAny_bind (wpAny_sequenceKey ht.typeIs (by decide) ?_)
 refine wpAny_bind (wpAny_callSpecial?_slot (name:=Str.ofString "__getitem__") ht.typeIs PyProof.Rows.slot_tuple_getitem
  (wpAny_call_entry PyProof.Rows.slot_tuple_getitem ht.typeIs entry_tuple_getitem ?_ (args_tuple_getitem _ _)))
 show wpAny _ _ (Builtin.Tuple.tupleItemsOf (.ref t) >>= _) _ _ s
 refine wpAny_bind (tupleItemsOf_ ht ?_)
 refine wpAny_bind (wpAny_typeOf hTs ?_)
 rw[if_pos (by decide)]
 refine wpAny_bind (HT.sliceApplied_gen hs pl pu ?_)
 have hyes:(((HT.sIx items.size 0 lo:Nat):Int)==0&&(1:Int)==1&&(HT.sIx items.size items.size hi - HT.sIx items.size 0 lo)==items.size)=true:=by
  rw[hw.1,hw.2]
  simp
 show wpAny _ _ (if (((HT.sIx items.size 0 lo:Nat):Int)==0&&(1:Int)==1&&(HT.sIx items.size items.size hi - HT.sIx items.size 0 lo)==items.size)=true then _ else _) _ _ s
 rw[if_pos hyes]
 refine wpAny_bind (m:=Builtin.Tuple.tupleIsExact _) ?_
 unfold Builtin.Tuple.tupleIsExact
 refine wpAny_bind (wpAny_typeOf ht.typeIs (wpAny_pure ?_))
 rw[if_pos (by decide)]
 first
  |exact wpAny_bind (wpAny_rule (wpAny_pure ⟨_,rfl,wpAny_pure h⟩))
  |exact wpAny_bind (wpAny_rule (wpAny_bind (wpAny_pure (wpAny_pure ⟨_,rfl,wpAny_pure h⟩))))
  |exact wpAny_bind (wpAny_bind (wpAny_rule (wpAny_pure (wpAny_pure ⟨_,rfl,wpAny_pure h⟩))))
end
end MS
end
section
namespace MS
open PySem PySem.Spec PyProof.Rows L2
open M (D Cell Store Sl)
def SqF(K:PySem.W.Frag)(H:Hp)(a:Addr)(xs:List V):Prop:=
 (∃ o,H a=some (.frz o (.lst xs)))∨∃ (o:Obj) (its:Array Value) (n:Nat),K.lookup a=some o∧o.cls=.type "list"∧o.dict=none∧o.data=.seq its n∧its.size≤sizeLine∧Vals xs its.toList
mutual
noncomputable def IsD(K:PySem.W.Frag)(m:List Addr)(H:Hp):D→V→Prop
 |.non,v=>v=.non
 |.bl b,v=>v=.bl b
 |.int i,v=>v=.int i
 |.str s,v=>v=.str s
 |.tup ds,v=>∃ a xs,v=.ref a∧SqT K H a xs∧IsDs K m H ds xs
 |.lst ds,v=>∃ a xs,v=.ref a∧SqF K H a xs∧IsDs K m H ds xs
 |.loc l,v=>∃ a,m[l]?=some a∧v=.ref a
noncomputable def IsDs(K:PySem.W.Frag)(m:List Addr)(H:Hp):List D→List V→Prop
 |[],xs=>xs=[]
 |d::ds,xs=>∃ x r,xs=x::r∧IsD K m H d x∧IsDs K m H ds r
end
def Sub(m m':List Addr):Prop:=∀ (l:Nat) (a:Addr),m[l]?=some a→m'[l]?=some a
structure Tr (H H':Hp):Prop where
 tup:∀ b xs,H b=some (.tup xs)→H' b=some (.tup xs)
 frz:∀ b o u,H b=some (.frz o u)→H' b=some (.frz o u)
theorem Sub.refl(m:List Addr):Sub m m:=fun _ _ h=>h
theorem Sub.trans{m m1 m2:List Addr}(a:Sub m m1)(b:Sub m1 m2):Sub m m2:=fun l x h=>b l x (a l x h)
theorem Sub.app(m r:List Addr):Sub m (m++r):=fun l a h=>by
 rw[List.getElem?_append_left (List.getElem?_eq_some_iff.mp h).1]; exact h
theorem Tr.refl(H:Hp):Tr H H:=⟨fun _ _ h=>h,fun _ _ _ h=>h⟩
theorem Tr.trans{H H1 H2:Hp}(a:Tr H H1)(b:Tr H1 H2):Tr H H2:=⟨fun c xs h=>b.tup c xs (a.tup c xs h),fun c o u h=>b.frz c o u (a.frz c o u h)⟩
theorem Tr.of_same{H H':Hp}(h:Same H H'):Tr H H':=⟨fun b xs e=>h b _ e,fun b o u e=>h b _ e⟩
theorem same_new{H:Hp}{p:Addr}{o:HO}(hp:H p=none):Same H (upd H p o):=fun b u e=>by
 rw[upd_ne (ne_of_none e hp)]; exact e
theorem Tr.put{H:Hp}{p:Addr}{xs ys:List V}(hp:H p=some (.lst xs)):Tr H (upd H p (.lst ys)):=
 ⟨fun b zs e=>by rw[upd_ne (ne_of e hp (by intro z; cases z))]; exact e,fun b o u e=>by rw[upd_ne (ne_of e hp (by intro z; cases z))]; exact e⟩
theorem Tr.sqT{K:PySem.W.Frag}{H H':Hp}{a:Addr}{xs:List V}(t:Tr H H')(h:SqT K H a xs):SqT K H' a xs:=by
 rcases h with (h|⟨o,h⟩)|h
 ·exact .inl (.inl (t.tup _ _ h))
 ·exact .inl (.inr ⟨o,t.frz _ _ _ h⟩)
 ·exact .inr h
theorem SqF.sq{K:PySem.W.Frag}{H:Hp}{a:Addr}{xs:List V}(h:SqF K H a xs):SqL K H a xs:=by
 rcases h with h|h
 ·exact .inl (.inr h)
 ·exact .inr h
theorem Tr.sqF{K:PySem.W.Frag}{H H':Hp}{a:Addr}{xs:List V}(t:Tr H H')(h:SqF K H a xs):SqF K H' a xs:=by
 rcases h with⟨o,h⟩|h
 ·exact .inl ⟨o,t.frz _ _ _ h⟩
 ·exact .inr h
section
variable {K:PySem.W.Frag}{m m':List Addr}{H H':Hp}
mutual
theorem isD_mono(hs:Sub m m')(ht:Tr H H'):∀ (d:D) (v:V),IsD K m H d v→IsD K m' H' d v
 |.non,_,h=>h
 |.bl _,_,h=>h
 |.int _,_,h=>h
 |.str _,_,h=>h
 |.tup ds,_,h=>by
  unfold IsD at h ⊢
  obtain⟨a,xs,e,q,r⟩:=h
  exact⟨a,xs,e,ht.sqT q,isDs_mono hs ht ds xs r⟩
 |.lst ds,_,h=>by
  unfold IsD at h ⊢
  obtain⟨a,xs,e,q,r⟩:=h
  exact⟨a,xs,e,ht.sqF q,isDs_mono hs ht ds xs r⟩
 |.loc l,_,h=>by
  unfold IsD at h ⊢
  obtain⟨a,e,q⟩:=h
  exact⟨a,hs l a e,q⟩
theorem isDs_mono(hs:Sub m m')(ht:Tr H H'):∀ (ds:List D) (xs:List V),IsDs K m H ds xs→IsDs K m' H' ds xs
 |[],_,h=>h
 |d::ds,_,h=>by
  unfold IsDs at h ⊢
  obtain⟨x,r,e,q,t⟩:=h
  exact⟨x,r,e,isD_mono hs ht d x q,isDs_mono hs ht ds r t⟩
end
theorem IsD.int{i:Int}{v:V}(h:IsD K m H (.int i) v):v=.int i:=by unfold IsD at h; exact h
theorem IsD.bl{i:Bool}{v:V}(h:IsD K m H (.bl i) v):v=.bl i:=by unfold IsD at h; exact h
theorem IsD.str{i:Str}{v:V}(h:IsD K m H (.str i) v):v=.str i:=by unfold IsD at h; exact h
theorem IsD.non{v:V}(h:IsD K m H .non v):v=.non:=by unfold IsD at h; exact h
theorem IsD.tup{ds:List D}{v:V}(h:IsD K m H (.tup ds) v):∃ a xs,v=.ref a∧SqT K H a xs∧IsDs K m H ds xs:=by unfold IsD at h; exact h
theorem IsD.lst{ds:List D}{v:V}(h:IsD K m H (.lst ds) v):∃ a xs,v=.ref a∧SqF K H a xs∧IsDs K m H ds xs:=by unfold IsD at h; exact h
theorem IsD.loc{l:Nat}{v:V}(h:IsD K m H (.loc l) v):∃ a,m[l]?=some a∧v=.ref a:=by unfold IsD at h; exact h
theorem mkInt(i:Int):IsD K m H (.int i) (.int i):=by unfold IsD; rfl
theorem mkBl(i:Bool):IsD K m H (.bl i) (.bl i):=by unfold IsD; rfl
theorem mkStr(i:Str):IsD K m H (.str i) (.str i):=by unfold IsD; rfl
theorem mkNon:IsD K m H .non .non:=by unfold IsD; rfl
theorem mkTup{ds:List D}{a:Addr}{xs:List V}(h:SqT K H a xs)(q:IsDs K m H ds xs):IsD K m H (.tup ds) (.ref a):=by unfold IsD; exact⟨a,xs,rfl,h,q⟩
theorem mkLst{ds:List D}{a:Addr}{xs:List V}(h:SqF K H a xs)(q:IsDs K m H ds xs):IsD K m H (.lst ds) (.ref a):=by unfold IsD; exact⟨a,xs,rfl,h,q⟩
theorem mkLoc{l:Nat}{a:Addr}(h:m[l]?=some a):IsD K m H (.loc l) (.ref a):=by unfold IsD; exact⟨a,h,rfl⟩
theorem IsDs.nil{xs:List V}(h:IsDs K m H [] xs):xs=[]:=by unfold IsDs at h; exact h
theorem IsDs.cons{d:D}{ds:List D}{xs:List V}(h:IsDs K m H (d::ds) xs):∃ x r,xs=x::r∧IsD K m H d x∧IsDs K m H ds r:=by unfold IsDs at h; exact h
theorem mkNil:IsDs K m H [] []:=by unfold IsDs; rfl
theorem mkCons{d:D}{ds:List D}{x:V}{r:List V}(h:IsD K m H d x)(t:IsDs K m H ds r):IsDs K m H (d::ds) (x::r):=by unfold IsDs; exact⟨x,r,rfl,h,t⟩
theorem IsDs.one{d:D}{xs:List V}(h:IsDs K m H [d] xs):∃ x,xs=[x]∧IsD K m H d x:=by
 obtain⟨x,r,rfl,q,t⟩:=h.cons
 rw[t.nil]
 exact⟨x,rfl,q⟩
theorem IsDs.two{d e:D}{xs:List V}(h:IsDs K m H [d,e] xs):∃ x y,xs=[x,y]∧IsD K m H d x∧IsD K m H e y:=by
 obtain⟨x,r,rfl,q,t⟩:=h.cons
 obtain⟨y,rfl,q'⟩:=t.one
 exact⟨x,y,rfl,q,q'⟩
theorem IsDs.length:∀ {ds:List D}{xs:List V},IsDs K m H ds xs→ds.length=xs.length
 |[],_,h=>by rw[h.nil]; rfl
 |_::_,_,h=>by
  obtain⟨x,r,rfl,_,t⟩:=h.cons
  rw[List.length_cons,List.length_cons,t.length]
theorem IsDs.get:∀ {ds:List D}{xs:List V}{i:Nat}{d:D},IsDs K m H ds xs→ds[i]?=some d→∃ x,xs[i]?=some x∧IsD K m H d x
 |[],_,_,_,_,e=>by simp at e
 |d::ds,_,0,d',h,e=>by
  obtain⟨x,r,rfl,q,_⟩:=h.cons
  have e':d=d':=by simpa using e
  subst e'
  exact⟨x,rfl,q⟩
 |d::ds,_,i+1,d',h,e=>by
  obtain⟨x,r,rfl,_,t⟩:=h.cons
  obtain⟨y,e1,e2⟩:=t.get (i:=i) (d:=d') (by simpa using e)
  exact⟨y,by simpa using e1,e2⟩
theorem IsDs.back:∀ {ds:List D}{xs:List V}{i:Nat}{x:V},IsDs K m H ds xs→xs[i]?=some x→∃ d,ds[i]?=some d∧IsD K m H d x:=fun {ds xs i x} h e=>by
 have hl:=h.length
 have hi:=(List.getElem?_eq_some_iff.mp e).1
 have e2:ds[i]?=some (ds[i]'(by omega)):=by simp
 obtain⟨y,e3,q⟩:=h.get e2
 rw[e]at e3
 cases e3
 exact⟨_,e2,q⟩
theorem IsDs.append:∀ {ds es:List D}{xs ys:List V},IsDs K m H ds xs→IsDs K m H es ys→IsDs K m H (ds++es) (xs++ys)
 |[],_,_,_,h,q=>by rw[h.nil]; exact q
 |_::_,_,_,_,h,q=>by
  obtain⟨x,r,rfl,a,t⟩:=h.cons
  exact mkCons a (t.append q)
theorem IsDs.set:∀ {ds:List D}{xs:List V}(i:Nat){d:D}{x:V},IsDs K m H ds xs→IsD K m H d x→IsDs K m H (ds.set i d) (xs.set i x)
 |[],_,_,_,_,h,_=>by rw[h.nil]; exact mkNil
 |_::_,_,0,_,_,h,q=>by
  obtain⟨x,r,rfl,a,t⟩:=h.cons
  exact mkCons q t
 |_::_,_,i+1,_,_,h,q=>by
  obtain⟨x,r,rfl,a,t⟩:=h.cons
  exact mkCons a (t.set i q)
end
noncomputable def keyOf:D→Option Key
 |.int i=>some (.inl i)
 |.str z=>some (.inr z)
 |_=>none
noncomputable def IsKV(K:PySem.W.Frag)(m:List Addr)(H:Hp):List (D×D)→List (Key×V)→Prop
 |[],xs=>xs=[]
 |p::r,xs=>∃ k v xr,xs=(k,v)::xr∧keyOf p.1=some k∧IsD K m H p.2 v∧IsKV K m H r xr
theorem isKV_mono{K:PySem.W.Frag}{m m':List Addr}{H H':Hp}(hs:Sub m m')(ht:Tr H H'):∀ (kvs:List (D×D)) (xs:List (Key×V)),IsKV K m H kvs xs→IsKV K m' H' kvs xs
 |[],_,h=>h
 |p::r,_,⟨k,v,xr,e,hk,hv,hr⟩=>⟨k,v,xr,e,hk,isD_mono hs ht _ _ hv,isKV_mono hs ht r xr hr⟩
theorem IsKV.length{K:PySem.W.Frag}{m:List Addr}{H:Hp}:∀ {kvs:List (D×D)}{xs:List (Key×V)},IsKV K m H kvs xs→kvs.length=xs.length
 |[],_,h=>by rw[show _=[] from h]; rfl
 |p::r,_,⟨k,v,xr,e,_,_,hr⟩=>by rw[e,List.length_cons,List.length_cons,hr.length]
theorem eq_key{a b:D}{k j:Key}(ha:keyOf a=some k)(hb:keyOf b=some j):M.eqT a b=decide (k=j):=by
 cases a with
 |int i=>
  cases ha
  cases b with
  |int i'=>cases hb; rw[M.eqT]; by_cases h:i=i'<;>simp[h]
  |str z=>cases hb; simp[M.eqT]
  |_=>cases hb
 |str z=>
  cases ha
  cases b with
  |int i'=>cases hb; simp[M.eqT]
  |str z'=>cases hb; rw[M.eqT]; by_cases h:z=z'<;>simp[h]
  |_=>cases hb
 |_=>cases ha
theorem key_of{a:D}(h:M.isKey a=true):∃ k,keyOf a=some k:=by
 cases a with
 |int i=>exact⟨_,rfl⟩
 |str z=>exact⟨_,rfl⟩
 |_=>cases h
theorem key_V{K:PySem.W.Frag}{m:List Addr}{H:Hp}{a:D}{k:Key}{v:V}(h:keyOf a=some k)(i:IsD K m H a v):v=kV k:=by
 cases a with
 |int i'=>cases h; exact i.int
 |str z=>cases h; exact i.str
 |_=>cases h
theorem IsKV.get{K:PySem.W.Frag}{m:List Addr}{H:Hp}{a:D}{j:Key}(ha:keyOf a=some j):∀ {kvs:List (D×D)}{xs:List (Key×V)},IsKV K m H kvs xs→(M.dget kvs a=none∧valV xs j=none)∨∃ d v,M.dget kvs a=some d∧valV xs j=some v∧IsD K m H d v
 |[],_,h=>by rw[show _=[] from h]; exact .inl ⟨rfl,rfl⟩
 |p::r,_,⟨k,v,xr,e,hk,hv,hr⟩=>by
  subst e
  have eq:=eq_key hk ha
  by_cases hkj:k=j
  ·refine .inr ⟨p.2,v,?_,valV_pos (p:=(k,v)) hkj,hv⟩
   rw[decide_eq_true hkj]at eq
   simp[M.dget,List.find?_cons,eq]
  ·rw[decide_eq_false hkj]at eq
   have e1:M.dget (p::r) a=M.dget r a:=by simp[M.dget,List.find?_cons,eq]
   rw[e1,valV_neg (p:=(k,v)) hkj]
   exact hr.get ha
theorem IsKV.any{K:PySem.W.Frag}{m:List Addr}{H:Hp}{a:D}{j:Key}(ha:keyOf a=some j):∀ {kvs:List (D×D)}{xs:List (Key×V)},IsKV K m H kvs xs→(kvs.any fun p=>M.eqT p.1 a)=(xs.any fun p=>decide (p.1=j))
 |[],_,h=>by rw[show _=[] from h]; rfl
 |p::r,_,⟨k,v,xr,e,hk,hv,hr⟩=>by
  subst e
  rw[List.any_cons,List.any_cons,eq_key hk ha,hr.any ha]
theorem IsKV.repl{K:PySem.W.Frag}{m:List Addr}{H:Hp}{a d:D}{j:Key}{w:V}(ha:keyOf a=some j)(hd:IsD K m H d w):∀ {kvs:List (D×D)}{xs:List (Key×V)},IsKV K m H kvs xs→IsKV K m H (kvs.map fun p=>if M.eqT p.1 a then(p.1,d) else p) (xs.map fun p=>if p.1=j then(p.1,w) else p)
 |[],_,h=>by rw[show _=[] from h]; rfl
 |p::r,_,⟨k,v,xr,e,hk,hv,hr⟩=>by
  subst e
  have eq:=eq_key hk ha
  rw[List.map_cons,List.map_cons]
  by_cases hkj:k=j
  ·rw[decide_eq_true hkj]at eq
   rw[if_pos eq,if_pos hkj]
   exact⟨k,w,_,rfl,hk,hd,hr.repl ha hd⟩
  ·rw[decide_eq_false hkj]at eq
   rw[if_neg (by rw[eq]; nofun),if_neg hkj]
   exact⟨k,v,_,rfl,hk,hv,hr.repl ha hd⟩
theorem IsKV.snoc{K:PySem.W.Frag}{m:List Addr}{H:Hp}{a d:D}{j:Key}{w:V}(ha:keyOf a=some j)(hd:IsD K m H d w):∀ {kvs:List (D×D)}{xs:List (Key×V)},IsKV K m H kvs xs→IsKV K m H (kvs++[(a,d)]) (xs++[(j,w)])
 |[],_,h=>by rw[show _=[] from h]; exact⟨j,w,[],rfl,ha,hd,rfl⟩
 |p::r,_,⟨k,v,xr,e,hk,hv,hr⟩=>by
  subst e
  exact⟨k,v,_,rfl,hk,hv,hr.snoc ha hd⟩
theorem IsKV.put{K:PySem.W.Frag}{m:List Addr}{H:Hp}{a d:D}{j:Key}{w:V}{kvs:List (D×D)}{xs:List (Key×V)}(h:IsKV K m H kvs xs)(ha:keyOf a=some j)(hd:IsD K m H d w):IsKV K m H (M.dput kvs a d) (putK xs j w):=by
 unfold M.dput putK
 rw[h.any ha]
 split
 ·exact h.repl ha hd
 ·exact h.snoc ha hd
theorem IsKV.merge{K:PySem.W.Frag}{m:List Addr}{H:Hp}:∀ {more:List (D×D)}{ms:List (Key×V)}{kvs:List (D×D)}{xs:List (Key×V)},IsKV K m H more ms→IsKV K m H kvs xs→IsKV K m H (more.foldl (fun acc p=>M.dput acc p.1 p.2) kvs) (mergeK xs ms)
 |[],_,kvs,xs,h,q=>by rw[show _=[] from h]; exact q
 |p::r,_,kvs,xs,⟨k,v,xr,e,hk,hv,hr⟩,q=>by
  subst e
  exact hr.merge (q.put hk hv)
noncomputable def IsC(K:PySem.W.Frag)(m:List Addr)(H:Hp):Cell→Addr→Prop
 |.lst true ds,a=>∃ xs,H a=some (.lst xs)∧IsDs K m H ds xs
 |.lst false ds,a=>∃ xs,SqF K H a xs∧IsDs K m H ds xs
 |.dic kvs,a=>∃ xs,H a=some (.dK xs)∧IsKV K m H kvs xs
noncomputable def Wr:Cell→Bool
 |.lst w _=>w
 |.dic _=>true
structure Rel (K:PySem.W.Frag) (m:List Addr) (st:Store) (H:Hp):Prop where
 len:m.length=st.length
 nd:∀ (l l':Nat) (a:Addr) (c c':Cell),m[l]?=some a→m[l']?=some a→st[l]?=some c→st[l']?=some c'→Wr c=true→Wr c'=true→l=l'
 cell:∀ (l:Nat) (c:Cell) (a:Addr),st[l]?=some c→m[l]?=some a→IsC K m H c a
section
variable {K:PySem.W.Frag}{m:List Addr}{st:Store}{H:Hp}
theorem Rel.addr(h:Rel K m st H){l:Nat}{c:Cell}(e:st[l]?=some c):∃ a,m[l]?=some a:=by
 have hl:=(List.getElem?_eq_some_iff.mp e).1
 have:=h.len
 exact⟨m[l]'(by omega),by simp⟩
theorem IsC.wr{c:Cell}{a:Addr}(h:IsC K m H c a)(w:Wr c=true):∃ o,H a=some o:=by
 cases c with
 |lst w' ds=>
  have e:w'=true:=w
  subst e
  obtain⟨xs,e,_⟩:=h
  exact⟨_,e⟩
 |dic kvs=>
  obtain⟨xs,e,_⟩:=h
  exact⟨_,e⟩
theorem Rel.list(h:Rel K m st H){l:Nat}{ds:List D}{v:V}(e:M.listAt st l=some ds)(hv:IsD K m H (.loc l) v):∃ a xs,m[l]?=some a∧v=.ref a∧SqL K H a xs∧IsDs K m H ds xs:=by
 obtain⟨a,ha,rfl⟩:=hv.loc
 unfold M.listAt at e
 split at e
 ·rename_i w ds' q
  cases e
  have c:=h.cell l _ a q ha
  cases w with
  |true=>
   obtain⟨xs,e1,e2⟩:=c
   exact⟨a,xs,ha,rfl,SqL.of e1,e2⟩
  |false=>
   obtain⟨xs,e1,e2⟩:=c
   exact⟨a,xs,ha,rfl,e1.sq,e2⟩
 ·cases e
theorem Rel.seq(h:Rel K m st H){d:D}{ds:List D}{v:V}(e:M.seqAt st d=some ds)(hv:IsD K m H d v):∃ a xs,True∧v=.ref a∧SqL K H a xs∧IsDs K m H ds xs:=by
 cases d with
 |loc l=>
  obtain⟨a,xs,_,q⟩:=h.list e hv
  exact⟨a,xs,trivial,q⟩
 |lst es=>
  cases e
  obtain⟨a,xs,e,q,r⟩:=hv.lst
  exact⟨a,xs,trivial,e,q.sq,r⟩
 |_=>cases e
theorem Rel.wlist(h:Rel K m st H){l:Nat}{ds:List D}{v:V}(e:M.wlistAt st l=some ds)(hv:IsD K m H (.loc l) v):∃ a xs,m[l]?=some a∧v=.ref a∧H a=some (.lst xs)∧IsDs K m H ds xs∧st[l]?=some (.lst true ds):=by
 obtain⟨a,ha,rfl⟩:=hv.loc
 unfold M.wlistAt at e
 split at e
 ·rename_i ds' q
  cases e
  obtain⟨xs,e1,e2⟩:=h.cell l _ a q ha
  exact⟨a,xs,ha,rfl,e1,e2,q⟩
 ·cases e
theorem isC_mono{m':List Addr}{H':Hp}(hs:Sub m m')(ht:Tr H H'){c:Cell}{a:Addr}(h:IsC K m H c a)(hw:Wr c=true→H' a=H a):IsC K m' H' c a:=by
 cases c with
 |lst w ds=>
  cases w with
  |true=>
   obtain⟨xs,e,q⟩:=h
   exact⟨xs,(hw rfl).trans e,isDs_mono hs ht ds xs q⟩
  |false=>
   obtain⟨xs,e,q⟩:=h
   exact⟨xs,ht.sqF e,isDs_mono hs ht ds xs q⟩
 |dic kvs=>
  obtain⟨xs,e,q⟩:=h
  exact⟨xs,(hw rfl).trans e,isKV_mono hs ht kvs xs q⟩
theorem Rel.dict(h:Rel K m st H){l:Nat}{kvs:List (D×D)}{v:V}(e:M.dicAt st l=some kvs)(hv:IsD K m H (.loc l) v):∃ a xs,m[l]?=some a∧v=.ref a∧H a=some (.dK xs)∧IsKV K m H kvs xs∧st[l]?=some (.dic kvs):=by
 obtain⟨a,ha,rfl⟩:=hv.loc
 unfold M.dicAt at e
 split at e
 ·rename_i kvs' q
  cases e
  obtain⟨xs,e1,e2⟩:=h.cell l _ a q ha
  exact⟨a,xs,ha,rfl,e1,e2,q⟩
 ·cases e
theorem Rel.same(h:Rel K m st H){H':Hp}(s:Same H H'):Rel K m st H':=
 ⟨h.len,h.nd,fun l c a e ea=>isC_mono (Sub.refl m) (Tr.of_same s) (h.cell l c a e ea) fun w=>by
  obtain⟨xs,q⟩:=(h.cell l c a e ea).wr w
  rw[q]; exact s _ _ q⟩
theorem Rel.newC(h:Rel K m st H){p:Addr}{o:HO}{c:Cell}(hp:H p=none)(hc:Wr c=true→True)(hd:IsC K (m++[p]) (upd H p o) c p):Rel K (m++[p]) (st++[c]) (upd H p o):=by
 have ht:Tr H (upd H p o):=Tr.of_same (same_new hp)
 have old:∀ (l:Nat) (e:Cell) (a:Addr),(st++[c])[l]?=some e→(m++[p])[l]?=some a→(l<st.length∧st[l]?=some e∧m[l]?=some a)∨(l=st.length∧e=c∧a=p):=by
  intro l e a he ea
  by_cases hl:l<st.length
  ·rw[List.getElem?_append_left hl]at he
   rw[List.getElem?_append_left (by rw[h.len]; exact hl)]at ea
   exact .inl ⟨hl,he,ea⟩
  ·have hlt:=(List.getElem?_eq_some_iff.mp he).1
   rw[List.length_append,List.length_singleton]at hlt
   have e1:l=st.length:=by omega
   subst e1
   rw[List.getElem?_append_right (Nat.le_refl _)]at he
   rw[List.getElem?_append_right (by rw[h.len]; exact Nat.le_refl _),h.len]at ea
   have e2:c=e:=by simpa using he
   have e3:p=a:=by simpa using ea
   exact .inr ⟨rfl,e2.symm,e3.symm⟩
 refine⟨by simp[h.len],fun l l' a e e' e1 e2 e3 e4 w w'=>?_,fun l e a he ea=>?_⟩
 ·rcases old l e a e3 e1 with⟨h1,q1,r1⟩|⟨h1,q1,r1⟩<;>rcases old l' e' a e4 e2 with⟨h2,q2,r2⟩|⟨h2,q2,r2⟩
  ·exact h.nd l l' a e e' r1 r2 q1 q2 w w'
  ·obtain⟨ys,z⟩:=(h.cell l e a q1 r1).wr w
   rw[r2,hp]at z; cases z
  ·obtain⟨ys,z⟩:=(h.cell l' e' a q2 r2).wr w'
   rw[r1,hp]at z; cases z
  ·rw[h1,h2]
 ·rcases old l e a he ea with⟨h1,q1,r1⟩|⟨h1,q1,r1⟩
  ·refine isC_mono (Sub.app m [p]) ht (h.cell l e a q1 r1) fun w=>?_
   obtain⟨ys,z⟩:=(h.cell l e a q1 r1).wr w
   exact upd_ne (ne_of_none z hp)
  ·rw[q1,r1]
   exact hd
theorem Rel.new(h:Rel K m st H){p:Addr}{ds:List D}{xs:List V}(hp:H p=none)(hd:IsDs K m H ds xs):Rel K (m++[p]) (st++[.lst true ds]) (upd H p (.lst xs)):=
 h.newC hp (fun _=>trivial) ⟨xs,upd_same,isDs_mono (Sub.app m [p]) (Tr.of_same (same_new hp)) ds xs hd⟩
theorem Rel.newD(h:Rel K m st H){p:Addr}{kvs:List (D×D)}{xs:List (Key×V)}(hp:H p=none)(hd:IsKV K m H kvs xs):Rel K (m++[p]) (st++[.dic kvs]) (upd H p (.dK xs)):=
 h.newC hp (fun _=>trivial) ⟨xs,upd_same,isKV_mono (Sub.app m [p]) (Tr.of_same (same_new hp)) kvs xs hd⟩
theorem Rel.newLoc(h:Rel K m st H){p:Addr}{H':Hp}:IsD K (m++[p]) H' (.loc st.length) (.ref p):=mkLoc (by
 rw[List.getElem?_append_right (by rw[h.len]; exact Nat.le_refl _),h.len]; simp)
theorem Rel.putC(h:Rel K m st H){l:Nat}{a:Addr}{c c':Cell}{o:HO}(e:st[l]?=some c)(hw:Wr c=true)(ea:m[l]?=some a)(ht:Tr H (upd H a o))(hd:IsC K m (upd H a o) c' a):
  Rel K m (st.set l c') (upd H a o):=by
 have hl:=(List.getElem?_eq_some_iff.mp e).1
 have wr:∀ (j:Nat) (d:Cell),(st.set l c')[j]?=some d→(j=l∧d=c')∨(j≠l∧st[j]?=some d):=by
  intro j d q
  by_cases hj:j=l
  ·subst hj
   rw[List.getElem?_set_self hl]at q
   exact .inl ⟨rfl,(Option.some.inj q).symm⟩
  ·rw[List.getElem?_set_ne (Ne.symm hj)]at q
   exact .inr ⟨hj,q⟩
 refine⟨by rw[List.length_set]; exact h.len,fun j j' b d d' e1 e2 e3 e4 w w'=>?_,fun j d b q eb=>?_⟩
 ·rcases wr j d e3 with⟨a1,b1⟩|⟨a1,b1⟩<;>rcases wr j' d' e4 with⟨a2,b2⟩|⟨a2,b2⟩
  ·rw[a1,a2]
  ·subst a1; exact h.nd _ _ b _ _ e1 e2 e b2 hw w'
  ·subst a2; exact h.nd _ _ b _ _ e1 e2 b1 e w hw
  ·exact h.nd _ _ b _ _ e1 e2 b1 b2 w w'
 ·rcases wr j d q with⟨a1,b1⟩|⟨a1,b1⟩
  ·subst a1 b1
   rw[ea]at eb; cases eb
   exact hd
  ·refine isC_mono (Sub.refl m) ht (h.cell j d b b1 eb) fun w=>upd_ne fun z=>?_
   subst z
   exact a1 (h.nd _ _ b _ _ eb ea b1 e w hw)
theorem Rel.put(h:Rel K m st H){l:Nat}{a:Addr}{ds ds':List D}{xs ys:List V}(e:st[l]?=some (.lst true ds))(ea:m[l]?=some a)(hH:H a=some (.lst xs))(hd:IsDs K m H ds' ys):
  Rel K m (st.set l (.lst true ds')) (upd H a (.lst ys)):=
 h.putC e rfl ea (Tr.put hH) ⟨ys,upd_same,isDs_mono (Sub.refl m) (Tr.put hH) ds' ys hd⟩
theorem Tr.putD{H:Hp}{p:Addr}{xs ys:List (Key×V)}(hp:H p=some (.dK xs)):Tr H (upd H p (.dK ys)):=
 ⟨fun b zs e=>by rw[upd_ne (ne_of e hp (by intro z; cases z))]; exact e,fun b o u e=>by rw[upd_ne (ne_of e hp (by intro z; cases z))]; exact e⟩
theorem Rel.putD(h:Rel K m st H){l:Nat}{a:Addr}{kvs kvs':List (D×D)}{xs ys:List (Key×V)}(e:st[l]?=some (.dic kvs))(ea:m[l]?=some a)(hH:H a=some (.dK xs))(hd:IsKV K m H kvs' ys):
  Rel K m (st.set l (.dic kvs')) (upd H a (.dK ys)):=
 h.putC e rfl ea (Tr.putD hH) ⟨ys,upd_same,isKV_mono (Sub.refl m) (Tr.putD hH) kvs' ys hd⟩
end
structure SlotOk (K:PySem.W.Frag) (m:List Addr) (H:Hp) (τ:Sl) (σ:L2.St):Prop where
 len:τ.length=σ.length
 at_:∀ (i:Nat) (d:D),τ[i]?=some (some d)→∃ v,σ[i]?=some (some v)∧IsD K m H d v
theorem SlotOk.mono{K:PySem.W.Frag}{m m':List Addr}{H H':Hp}{τ:Sl}{σ:L2.St}(h:SlotOk K m H τ σ)(s:Sub m m')(t:Tr H H'):SlotOk K m' H' τ σ:=
 ⟨h.len,fun i d e=>let ⟨v,a,b⟩:=h.at_ i d e; ⟨v,a,isD_mono s t d v b⟩⟩
theorem SlotOk.put{K:PySem.W.Frag}{m:List Addr}{H:Hp}{τ:Sl}{σ:L2.St}(h:SlotOk K m H τ σ){i:Nat}{d:D}{v:V}(q:IsD K m H d v):SlotOk K m H (τ.set i (some d)) (σ.set i (some v)):=by
 refine⟨by rw[List.length_set,List.length_set]; exact h.len,fun j e ej=>?_⟩
 by_cases hj:i=j
 ·subst hj
  have hi:i<τ.length:=by
   have:=(List.getElem?_eq_some_iff.mp ej).1
   rwa [List.length_set]at this
  rw[List.getElem?_set_self hi]at ej
  cases ej
  exact⟨v,List.getElem?_set_self (by rw[← h.len]; exact hi),q⟩
 ·rw[List.getElem?_set_ne hj]at ej ⊢
  exact h.at_ j e ej
def Post(K:PySem.W.Frag)(m:List Addr)(H:Hp)(d:D)(st':Store)(Q:VK):Prop:=∀ v m' H',Sub m m'→Tr H H'→Rel K m' st' H'→IsD K m' H' d v→Q v H'
def PostB(K:PySem.W.Frag)(m:List Addr)(H:Hp)(b:Bool)(st':Store)(Q:Bool→Hp→Prop):Prop:=∀ m' H',Sub m m'→Tr H H'→Rel K m' st' H'→Q b H'
def PostL(K:PySem.W.Frag)(m:List Addr)(H:Hp)(ds:List D)(st':Store)(Q:List V→Hp→Prop):Prop:=∀ vs m' H',Sub m m'→Tr H H'→Rel K m' st' H'→IsDs K m' H' ds vs→Q vs H'
theorem Post.mono{K:PySem.W.Frag}{m m1:List Addr}{H H1:Hp}{d:D}{st':Store}{Q:VK}(p:Post K m H d st' Q)(s:Sub m m1)(t:Tr H H1):Post K m1 H1 d st' Q:=
 fun v m' H' s' t' r i=>p v m' H' (s.trans s') (t.trans t') r i
theorem Post.here{K:PySem.W.Frag}{m:List Addr}{H:Hp}{d:D}{st':Store}{Q:VK}{v:V}(p:Post K m H d st' Q)(r:Rel K m st' H)(i:IsD K m H d v):Q v H:=p v m H (Sub.refl m) (Tr.refl H) r i
noncomputable def tD(K:PySem.W.Frag)(f:Sl→Store→Option (D×Store)):TE:=fun σ H Q=>∃ m st τ d st',Rel K m st H∧SlotOk K m H τ σ∧f τ st=some (d,st')∧Post K m H d st' Q
noncomputable def tTs(K:PySem.W.Frag)(f:Sl→Store→Option (Bool×Store)):TT:=fun σ H Q=>∃ m st τ d st',Rel K m st H∧SlotOk K m H τ σ∧f τ st=some (d,st')∧PostB K m H d st' Q
noncomputable def tL(K:PySem.W.Frag)(f:Sl→Store→Option (List D×Store)):TA:=fun σ H Q=>∃ m st τ d st',Rel K m st H∧SlotOk K m H τ σ∧f τ st=some (d,st')∧PostL K m H d st' Q
noncomputable def rD(K:PySem.W.Frag)(g:Store→D→D→Option (D×Store)):R2:=fun x y H Q=>∃ m st a b d st',Rel K m st H∧IsD K m H a x∧IsD K m H b y∧g st a b=some (d,st')∧Post K m H d st' Q
def rC(K:PySem.W.Frag)(g:Store→List D→Option (D×Store)):List V→Hp→VK→Prop:=fun xs H Q=>∃ m st ds d st',Rel K m st H∧IsDs K m H ds xs∧g st ds=some (d,st')∧Post K m H d st' Q
def rU1(K:PySem.W.Frag)(g:Store→D→Option (D×Store)):V→Hp→VK→Prop:=fun x H Q=>∃ m st a d st',Rel K m st H∧IsD K m H a x∧g st a=some (d,st')∧Post K m H d st' Q
theorem tD.el{K:PySem.W.Frag}{f:Sl→Store→Option (D×Store)}{σ:L2.St}{H:Hp}{Q:VK}{P:Prop}(h:tD K f σ H Q)(k:∀ m st τ d st',Rel K m st H→SlotOk K m H τ σ→f τ st=some (d,st')→Post K m H d st' Q→P):P:=by
 rcases h with⟨m,st,τ,d,st',a,b,c,e⟩
 exact k m st τ d st' a b c e
theorem tTs.el{K:PySem.W.Frag}{f:Sl→Store→Option (Bool×Store)}{σ:L2.St}{H:Hp}{Q:Bool→Hp→Prop}{P:Prop}(h:tTs K f σ H Q)(k:∀ m st τ d st',Rel K m st H→SlotOk K m H τ σ→f τ st=some (d,st')→PostB K m H d st' Q→P):P:=by
 rcases h with⟨m,st,τ,d,st',p0,p1,p2,p3⟩
 exact k m st τ d st' p0 p1 p2 p3
theorem tL.el{K:PySem.W.Frag}{f:Sl→Store→Option (List D×Store)}{σ:L2.St}{H:Hp}{Q:List V→Hp→Prop}{P:Prop}(h:tL K f σ H Q)(k:∀ m st τ d st',Rel K m st H→SlotOk K m H τ σ→f τ st=some (d,st')→PostL K m H d st' Q→P):P:=by
 rcases h with⟨m,st,τ,d,st',p0,p1,p2,p3⟩
 exact k m st τ d st' p0 p1 p2 p3
theorem rD.el{K:PySem.W.Frag}{f:Store→D→D→Option (D×Store)}{x y:V}{H:Hp}{Q:VK}{P:Prop}(h:rD K f x y H Q)(k:∀ m st a b d st',Rel K m st H→IsD K m H a x→IsD K m H b y→f st a b=some (d,st')→Post K m H d st' Q→P):P:=by
 rcases h with⟨m,st,a,b,d,st',p0,p1,p2,p3,p4⟩
 exact k m st a b d st' p0 p1 p2 p3 p4
theorem rC.el{K:PySem.W.Frag}{f:Store→List D→Option (D×Store)}{xs:List V}{H:Hp}{Q:VK}{P:Prop}(h:rC K f xs H Q)(k:∀ m st ds d st',Rel K m st H→IsDs K m H ds xs→f st ds=some (d,st')→Post K m H d st' Q→P):P:=by
 rcases h with⟨m,st,ds,d,st',p0,p1,p2,p3⟩
 exact k m st ds d st' p0 p1 p2 p3
theorem rU1.el{K:PySem.W.Frag}{f:Store→D→Option (D×Store)}{x:V}{H:Hp}{Q:VK}{P:Prop}(h:rU1 K f x H Q)(k:∀ m st a d st',Rel K m st H→IsD K m H a x→f st a=some (d,st')→Post K m H d st' Q→P):P:=by
 rcases h with⟨m,st,a,d,st',p0,p1,p2,p3⟩
 exact k m st a d st' p0 p1 p2 p3
theorem _root_.L2.PE.imp{X:Cx}{e:Expr}{t t':TE}(h:PE X e t)(f:∀ σ H Q,t' σ H Q→t σ H Q):PE X e t':=fun pins s σ H Q I q=>h pins s σ H Q I (f σ H Q q)
theorem _root_.L2.PT.imp{X:Cx}{e:Expr}{t t':TT}(h:PT X e t)(f:∀ σ H Q,t' σ H Q→t σ H Q):PT X e t':=fun pins s σ H Q I q=>h pins s σ H Q I (f σ H Q q)
theorem _root_.L2.PW.imp{X:Cx}{e:Expr}{t t':TT}(h:PW X e t)(f:∀ σ H Q,t' σ H Q→t σ H Q):PW X e t':=fun w pins s σ H Q I q=>h w pins s σ H Q I (f σ H Q q)
theorem _root_.L2.PA.imp{X:Cx}{e:List Expr}{t t':TA}(h:PA X e t)(f:∀ σ H Q,t' σ H Q→t σ H Q):PA X e t':=fun p pins s σ H Q I q=>h p pins s σ H Q I (f σ H Q q)
theorem _root_.L2.PS.imp{X:Cx}{e:Stmt}{t t':TS}(h:PS X e t)(f:∀ σ H Q,t' σ H Q→t σ H Q):PS X e t':=fun pins s σ H Q I q=>h pins s σ H Q I (f Q σ H q)
theorem _root_.L2.PSs.imp{X:Cx}{e:List Stmt}{t t':TS}(h:PSs X e t)(f:∀ D σ H,t' D σ H→t D σ H):PSs X e t':=fun pins s σ H D I q=>h pins s σ H D I (f D σ H q)
theorem bindD{α:Type}{f:Option (D×Store)}{g:D×Store→Option α}{r:α}(e:f.bind g=some r):∃ d st,f=some (d,st)∧g (d,st)=some r:=by
 cases f with
 |none=>cases e
 |some p=>exact⟨p.1,p.2,rfl,e⟩
theorem mapD{α β:Type}{f:Option α}{g:α→β}{r:β}(e:f.map g=some r):∃ d,f=some d∧g d=r:=by
 cases f with
 |none=>cases e
 |some p=>exact⟨p,rfl,Option.some.inj e⟩
theorem bindO{α β:Type}{f:Option α}{g:α→Option β}{r:β}(e:f.bind g=some r):∃ d,f=some d∧g d=some r:=by
 cases f with
 |none=>cases e
 |some p=>exact⟨p,rfl,e⟩
section
variable {K:PySem.W.Frag}
theorem tD_bin{fa fb:Sl→Store→Option (D×Store)}{g:Store→D→D→Option (D×Store)}{σ:L2.St}{H:Hp}{Q:VK}
  (h:tD K (fun τ st=>(fa τ st).bind fun p=>(fb τ p.2).bind fun q=>g q.2 p.1 q.1) σ H Q):tOp (rD K g) (tD K fa) (tD K fb) σ H Q:=by
 refine h.el fun m st τ d st' R0 S0 e q=>?_
 obtain⟨d1,s1,e1,e⟩:=bindD e
 obtain⟨d2,s2,e2,e⟩:=bindD e
 exact⟨m,st,τ,d1,s1,R0,S0,e1,fun x m1 H1 b1 t1 R1 i1=>⟨m1,s1,τ,d2,s2,R1,S0.mono b1 t1,e2,fun y m2 H2 b2 t2 R2 i2=>
  ⟨m2,s2,d1,d2,d,st',R2,isD_mono b2 t2 _ _ i1,i2,e,q.mono (b1.trans b2) (t1.trans t2)⟩⟩⟩
theorem tD_un{fa:Sl→Store→Option (D×Store)}{g:Store→D→Option (D×Store)}{σ:L2.St}{H:Hp}{Q:VK}
  (h:tD K (fun τ st=>(fa τ st).bind fun p=>g p.2 p.1) σ H Q):tUn (rU1 K g) (tD K fa) σ H Q:=by
 refine h.el fun m st τ d st' R0 S0 e q=>?_
 obtain⟨d1,s1,e1,e⟩:=bindD e
 exact⟨m,st,τ,d1,s1,R0,S0,e1,fun x m1 H1 b1 t1 R1 i1=>⟨m1,s1,d1,d,st',R1,i1,e,q.mono b1 t1⟩⟩
theorem tL_cons{fa:Sl→Store→Option (D×Store)}{fr:Sl→Store→Option (List D×Store)}{σ:L2.St}{H:Hp}{Q:List V→Hp→Prop}
  (h:tL K (fun τ st=>(fa τ st).bind fun p=>(fr τ p.2).bind fun q=>some (p.1::q.1,q.2)) σ H Q):tCons (tD K fa) (tL K fr) σ H Q:=by
 refine h.el fun m st τ d st' R0 S0 e q=>?_
 obtain⟨d1,s1,e1,e⟩:=bindD e
 obtain⟨p,e2,e⟩:=bindO e
 cases e
 exact⟨m,st,τ,d1,s1,R0,S0,e1,fun x m1 H1 b1 t1 R1 i1=>⟨m1,s1,τ,p.1,p.2,R1,S0.mono b1 t1,e2,fun xs m2 H2 b2 t2 R2 i2=>
  q _ m2 H2 (b1.trans b2) (t1.trans t2) R2 (mkCons (isD_mono b2 t2 _ _ i1) i2)⟩⟩
theorem tL_nil{σ:L2.St}{H:Hp}{Q:List V→Hp→Prop}(h:tL K (fun _ st=>some ([],st)) σ H Q):tNil σ H Q:=by
 refine h.el fun m st τ d st' R0 S0 e q=>?_
 cases e
 exact q [] m H (Sub.refl m) (Tr.refl H) R0 mkNil
theorem tL_call{fa:Sl→Store→Option (List D×Store)}{g:Store→List D→Option (D×Store)}{σ:L2.St}{H:Hp}{Q:VK}
  (h:tD K (fun τ st=>(fa τ st).bind fun p=>g p.2 p.1) σ H Q):tCB (rC K g) (tL K fa) σ H Q:=by
 refine h.el fun m st τ d st' R0 S0 e q=>?_
 obtain⟨p,e1,e⟩:=bindO e
 exact⟨m,st,τ,p.1,p.2,R0,S0,e1,fun xs m1 H1 b1 t1 R1 i1=>⟨m1,p.2,p.1,d,st',R1,i1,e,q.mono b1 t1⟩⟩
end
end MS
end
section
namespace MS
open PySem PySem.Spec PyProof.Rows L2
open M (D Cell Store Sl)
section
variable {X:Cx}
theorem lim_eq:(sizeLine:Nat)=M.lim:=sizeLine_eq
theorem op_fdiv64:OpR X (binaryOp .FloorDiv) (rI (fun _ j=>0<j∧j<2 ^ 64) fun i j=>.int (i / j)):=opI fun i j _ _ _ _ _ hc q=>by
 have h1:(0:Int)<j:=hc.1
 have h2:j<2 ^ 64:=hc.2
 refine floordiv_int (by omega) (by rw[Int.fdiv_eq_ediv_of_nonneg i (by omega)]; exact q) (.inl (PyProof.noPylong_of_log2 ?_))
 have h3:j.natAbs<2 ^ 64:=by omega
 have h4:j.natAbs≠0:=by omega
 have h5:j.natAbs.log2<64:=(Nat.log2_lt h4).mpr h3
 omega
theorem _root_.MS.IsDs.rep{K:PySem.W.Frag}{m:List Addr}{H:Hp}{ds:List D}{xs:List V}(h:IsDs K m H ds xs):∀ k:Nat,IsDs K m H (List.replicate k ds).flatten (List.replicate k xs).flatten
 |0=>by simp only[List.replicate_zero,List.flatten_nil]; exact mkNil
 |k+1=>by
  rw[List.replicate_succ,List.replicate_succ,List.flatten_cons,List.flatten_cons]
  exact h.append (IsDs.rep h k)
theorem op_catS{pins:List (Addr×Obj)}{s:Shared}{σ:L2.St}{H:Hp}{Q:VK}{l b:Addr}{xs ys:List V}(I:Inv X pins σ H s)(hq:SqL X.K H l xs)(hq':SqL X.K H b ys)(hz:xs.length+ys.length≤sizeLine)(q:∀ p,H p=none→Q (.ref p) (upd H p (.lst (xs++ys)))):
  wpAny (model X.prog X.w) X.A (binaryOp .Add (.ref l) (.ref b)) (EP X pins σ Q) X.xe s:=by
 obtain⟨vs,r1,pl,_⟩:=I.list hq
 obtain⟨ws,r2,pl2,_⟩:=I.list hq'
 have l1:=r1.length
 have l2:=r2.length
 obtain⟨⟨cls,dd,data,sl⟩,n,ho,hc,hdd,hd⟩:=pl
 obtain⟨⟨cls2,dd2,data2,sl2⟩,n2,ho2,hc2,hdd2,hd2⟩:=pl2
 simp only at hc hd hc2 hd2
 subst hc hd hc2 hd2
 have e:vs.toArray++ws.toArray=(vs++ws).toArray:=by simp
 refine concat_meets ⟨_,ho,rfl⟩ ⟨_,ho2,rfl⟩ noFill_list_add seq_list_add PySem.F.slot_list_add PySem.F.entry_list_add (PySem.F.args_list_add_2 _ _) (list_addW l b vs.toArray ws.toArray n n2 dd dd2 sl sl2 (by simp; omega)) ⟨ho,ho2,?_⟩
 rw[e]
 exact⟨.ref _,_,I.lnew (t':=s.toks) (r1.append r2) (by rw[List.length_append]; omega),rfl,q _ I.fresh⟩
theorem op_binD(op:Operator):OpR X (binaryOp op) (rD X.K fun st a b=>M.binop st op a b):=by
 intro pins s σ H x y v u Q I rx ry h
 refine h.el fun m st a b d st' R0 i1 i2 e q=>?_
 have e:M.binop st op a b=some (d,st'):=e
 unfold M.binop at e
 split at e
 ·cases e
  exact op_add pins s σ H x y v u Q I rx ry ⟨_,_,i1.int,i2.int,q.here R0 (mkInt _)⟩
 ·rename_i as bs
  split at e
  ·cases e
  ·rename_i hc
   cases e
   rw[Bool.or_eq_true,decide_eq_true_eq,not_or,List.isEmpty_iff]at hc
   obtain⟨pa,xs,rfl,hx,ix⟩:=i1.tup
   obtain⟨pb,ys,rfl,hy,iy⟩:=i2.tup
   have l1:=ix.length
   have l2:=iy.length
   have l3:=lim_eq
   refine op_catT pins s σ H _ _ v u Q I rx ry ⟨pa,pb,xs,ys,rfl,rfl,hx,hy,?_,by omega,fun z=>?_,fun z p hp=>?_⟩
   ·intro z
    subst z
    exact hc.1 (List.length_eq_zero_iff.mp l1)
   ·have i3:=ix.append iy
    rw[z,List.append_nil]at i3
    exact q.here R0 (mkTup hx i3)
   ·have sm:=same_new (o:=.tup (xs++ys)) hp
    exact q _ m _ (Sub.refl m) (Tr.of_same sm) (R0.same sm) (mkTup (SqT.of upd_same) (isDs_mono (Sub.refl m) (Tr.of_same sm) _ _ (ix.append iy)))
 ·split at e
  ·cases e
  ·rename_i hc
   cases e
   have l3:=lim_eq
   exact op_add_str pins s σ H x y v u Q I rx ry ⟨_,_,i1.str,i2.str,by omega,q.here R0 (mkStr _)⟩
 ·rename_i la lb _ _ _
  obtain⟨ds1,e1,e⟩:=bindO e
  obtain⟨ds2,e2,e⟩:=bindO e
  split at e
  ·cases e
  ·rename_i hc
   cases e
   obtain⟨pa,xs,_,rfl,hx,ix⟩:=R0.seq e1 i1
   obtain⟨pb,ys,_,rfl,hy,iy⟩:=R0.seq e2 i2
   have l1:=ix.length
   have l2:=iy.length
   have l3:=lim_eq
   cases rx
   cases ry
   refine op_catS I hx hy (by omega) fun p hp=>?_
   exact q _ (m++[p]) _ (Sub.app m [p]) (Tr.of_same (same_new hp)) (R0.new hp (ix.append iy)) R0.newLoc
 ·cases e
  exact op_sub pins s σ H x y v u Q I rx ry ⟨_,_,i1.int,i2.int,q.here R0 (mkInt _)⟩
 ·split at e
  ·rename_i hc
   cases e
   refine op_mul pins s σ H x y v u Q I rx ry ⟨_,_,i1.int,i2.int,?_,q.here R0 (mkInt _)⟩
   unfold M.mulOk at hc
   simp only[Bool.or_eq_true,Bool.and_eq_true,decide_eq_true_eq]at hc
   exact hc
  ·cases e
 ·rename_i as k _
  split at e
  ·cases e
  ·rename_i hc
   cases e
   simp only[Bool.or_eq_true,decide_eq_true_eq,not_or]at hc
   obtain⟨pa,xs,rfl,hx,ix⟩:=i1.tup
   have l1:=ix.length
   have l3:=lim_eq
   refine op_repT pins s σ H _ _ v u Q I rx ry ⟨pa,k,xs,rfl,i2.int,hx,by omega,by omega,by rw[← l1]; omega,fun ys hy=>⟨fun z=>?_,fun p hp=>?_⟩⟩
   ·have i3:=ix.rep k.toNat
    rw[← hy,z]at i3
    exact q.here R0 (mkTup hx i3)
   ·have sm:=same_new (o:=.tup ys) hp
    have i3:=ix.rep k.toNat
    rw[← hy]at i3
    exact q _ m _ (Sub.refl m) (Tr.of_same sm) (R0.same sm) (mkTup (SqT.of upd_same) (isDs_mono (Sub.refl m) (Tr.of_same sm) _ _ i3))
 ·rename_i la k _
  obtain⟨ds1,e1,e⟩:=bindO e
  split at e
  ·cases e
  ·rename_i hc
   cases e
   simp only[Bool.or_eq_true,decide_eq_true_eq,not_or]at hc
   obtain⟨pa,xs,m1,rfl,hx,ix,_⟩:=R0.wlist e1 i1
   have l1:=ix.length
   have l3:=lim_eq
   refine op_rep pins s σ H _ _ v u Q I rx ry ⟨pa,k,xs,rfl,i2.int,hx,by omega,by omega,by rw[← l1]; omega,fun p hp=>?_⟩
   exact q _ (m++[p]) _ (Sub.app m [p]) (Tr.of_same (same_new hp)) (R0.new hp (ix.rep k.toNat)) R0.newLoc
 ·split at e
  ·rename_i hc
   cases e
   exact op_fdiv64 pins s σ H x y v u Q I rx ry ⟨_,_,i1.int,i2.int,hc,q.here R0 (mkInt _)⟩
  ·cases e
 ·split at e
  ·rename_i hc
   cases e
   exact op_mod pins s σ H x y v u Q I rx ry ⟨_,_,i1.int,i2.int,hc,q.here R0 (mkInt _)⟩
  ·cases e
 ·split at e
  ·rename_i hc
   cases e
   exact op_pow pins s σ H x y v u Q I rx ry ⟨_,_,i1.int,i2.int,⟨hc.1,by omega,hc.2.2⟩,q.here R0 (mkInt _)⟩
  ·cases e
 ·cases e
theorem isD_tuple{pins:List (Addr×Obj)}{σ:L2.St}{H:Hp}{s:Shared}{m:List Addr}{ds:List D}{v:V}(I:Inv X pins σ H s)(h:IsD X.K m H (.tup ds) v):∃ a xs its,v=.ref a∧SqT X.K H a xs∧IsDs X.K m H ds xs∧Vals xs its∧IsTup s.heap a its.toArray:=by
 obtain⟨a,xs,rfl,hx,ix⟩:=h.tup
 obtain⟨its,r,p,_⟩:=I.tuple hx
 exact⟨a,xs,its,rfl,hx,ix,r,p⟩
section
variable {pins:List (Addr×Obj)}{σ:L2.St}{H:Hp}{s:Shared}{m:List Addr}
mutual
theorem isD_inj(I:Inv X pins σ H s):∀ (n:Nat) (d e:D) (v:V),M.flat n d=true→M.flat n e=true→IsD X.K m H d v→IsD X.K m H e v→d=e
 |n,.loc _,_,_,f,_,_,_=>by simp[M.flat]at f
 |n,.lst _,_,_,f,_,_,_=>by simp[M.flat]at f
 |n,.non,e,v,_,fe,h,h'=>by
  rw[h.non]at h'
  cases e with
  |non=>rfl
  |tup ds=>obtain⟨a,xs,z,_⟩:=h'.tup; cases z
  |loc l=>simp[M.flat]at fe
  |lst _=>simp[M.flat]at fe
  |bl b=>cases h'.bl
  |int b=>cases h'.int
  |str b=>cases h'.str
 |n,.bl b,e,v,_,fe,h,h'=>by
  rw[h.bl]at h'
  cases e with
  |non=>cases h'.non
  |tup ds=>obtain⟨a,xs,z,_⟩:=h'.tup; cases z
  |loc l=>simp[M.flat]at fe
  |lst _=>simp[M.flat]at fe
  |bl b=>cases h'.bl; rfl
  |int b=>cases h'.int
  |str b=>cases h'.str
 |n,.int b,e,v,_,fe,h,h'=>by
  rw[h.int]at h'
  cases e with
  |non=>cases h'.non
  |tup ds=>obtain⟨a,xs,z,_⟩:=h'.tup; cases z
  |loc l=>simp[M.flat]at fe
  |lst _=>simp[M.flat]at fe
  |bl b=>cases h'.bl
  |int b=>cases h'.int; rfl
  |str b=>cases h'.str
 |n,.str b,e,v,_,fe,h,h'=>by
  rw[h.str]at h'
  cases e with
  |non=>cases h'.non
  |tup ds=>obtain⟨a,xs,z,_⟩:=h'.tup; cases z
  |loc l=>simp[M.flat]at fe
  |lst _=>simp[M.flat]at fe
  |bl b=>cases h'.bl
  |int b=>cases h'.int
  |str b=>cases h'.str; rfl
 |0,.tup ds,e,v,f,fe,h,h'=>by simp[M.flat]at f
 |n+1,.tup ds,e,v,f,fe,h,h'=>by
  obtain⟨a,xs,rfl,hx,ix⟩:=h.tup
  cases e with
  |non=>cases h'.non
  |tup es=>
   obtain⟨b,ys,z,hy,iy⟩:=h'.tup
   cases z
   have:=I.tuple_inj hx hy
   subst this
   simp only[M.flat]at f fe
   rw[isDs_inj I n ds es xs f fe ix iy]
  |loc l=>simp[M.flat]at fe
  |lst _=>simp[M.flat]at fe
  |bl b=>cases h'.bl
  |int b=>cases h'.int
  |str b=>cases h'.str
theorem isDs_inj(I:Inv X pins σ H s):∀ (n:Nat) (ds es:List D) (xs:List V),M.flats n ds=true→M.flats n es=true→IsDs X.K m H ds xs→IsDs X.K m H es xs→ds=es
 |n,[],es,xs,_,_,h,h'=>by
  rw[h.nil]at h'
  exact(List.length_eq_zero_iff.mp h'.length).symm
 |n,d::ds,es,xs,f,fe,h,h'=>by
  obtain⟨x,r,rfl,q,t⟩:=h.cons
  cases es with
  |nil=>cases h'.nil
  |cons e es=>
   obtain⟨x',r',z,q',t'⟩:=h'.cons
   cases z
   simp only[M.flats,Bool.and_eq_true]at f fe
   rw[isD_inj I n d e x f.1 fe.1 q q',isDs_inj I n ds es r f.2 fe.2 t t']
end
mutual
theorem eqT_refl:∀ (n:Nat) (d:D),M.flat n d=true→M.eqT d d=true
 |n,.loc _,f=>by simp[M.flat]at f
 |n,.lst _,f=>by simp[M.flat]at f
 |n,.non,_=>rfl
 |n,.bl b,_=>by simp[M.eqT]
 |n,.int b,_=>by simp[M.eqT]
 |n,.str b,_=>by simp[M.eqT]
 |0,.tup ds,f=>by simp[M.flat]at f
 |n+1,.tup ds,f=>by
  simp only[M.flat]at f
  simp only[M.eqT]
  exact eqTs_refl n ds f
theorem eqTs_refl:∀ (n:Nat) (ds:List D),M.flats n ds=true→M.eqTs ds ds=true
 |n,[],_=>rfl
 |n,d::ds,f=>by
  simp only[M.flats,Bool.and_eq_true]at f
  simp only[M.eqTs,eqT_refl n d f.1,eqTs_refl n ds f.2,Bool.and_self]
end
noncomputable def pairE(ds es:List D)(j:Nat):Bool:=match ds[j]?,es[j]? with
 |some d,some e=>M.eqT d e
 |_,_=>true
theorem eqTs_pair:∀ (ds es:List D),M.eqTs ds es=((List.range (min ds.length es.length)).all (pairE ds es)&&ds.length==es.length)
 |[],[]=>rfl
 |[],e::es=>by simp[M.eqTs]
 |d::ds,[]=>by simp[M.eqTs]
 |d::ds,e::es=>by
  simp only[M.eqTs]
  rw[eqTs_pair ds es,List.length_cons,List.length_cons,Nat.add_min_add_right,List.range_succ_eq_map,List.all_cons,List.all_map,Bool.and_assoc]
  congr 1
  congr 1
  rw[Bool.eq_iff_iff,beq_iff_eq,beq_iff_eq]
  omega
theorem eqTs_same{ds es:List D}(h:ds.length=es.length):M.eqTs ds es=(List.range ds.length).all (pairE ds es):=by
 rw[eqTs_pair,h,Nat.min_self]
 simp
theorem eqAt_D(I:Inv X pins σ H s):∀ (n:Nat) (A:Around) (d e:D) (x y:V) (u v:Value),A.units+n<cLine→M.flat n d=true→M.flat n e=true→IsD X.K m H d x→IsD X.K m H e y→RelV x u→RelV y v→
  SeqAt.EqAt A s u v (M.eqT d e)∧SeqAt.RcAt A s u v (M.eqT d e):=by
 intro n
 induction n with
 |zero=>
  intro A d e x y u v hu f fe hx hy rx ry
  have hu0:A.units<cLine:=by omega
  cases d with
  |loc _=>simp[M.flat]at f
  |lst _=>simp[M.flat]at f
  |tup _=>simp[M.flat]at f
  |non=>
   cases hx.non; cases rx
   cases e with
   |loc _=>simp[M.flat]at fe
   |lst _=>simp[M.flat]at fe
   |tup _=>simp[M.flat]at fe
   |non=>cases hy.non; cases ry; exact⟨SeqAt.EqAt.same _,SeqAt.RcAt.none_none⟩
   |bl b=>cases hy.bl; cases ry; exact⟨SeqAt.EqAt.none_bool b,SeqAt.RcAt.none_bool b⟩
   |int b=>cases hy.int; obtain⟨t,rfl⟩:=ry; exact⟨SeqAt.EqAt.none_int b t,SeqAt.RcAt.none_int b t⟩
   |str b=>cases hy.str; obtain⟨t,rfl⟩:=ry; exact⟨SeqAt.EqAt.none_str b t,SeqAt.RcAt.none_str b t⟩
  |bl a=>
   cases hx.bl; cases rx
   cases e with
   |loc _=>simp[M.flat]at fe
   |lst _=>simp[M.flat]at fe
   |tup _=>simp[M.flat]at fe
   |non=>cases hy.non; cases ry; exact⟨SeqAt.EqAt.bool_none a,SeqAt.RcAt.bool_none a⟩
   |bl b=>cases hy.bl; cases ry; exact⟨SeqAt.EqAt.bool_bool a b,SeqAt.RcAt.bool_bool a b⟩
   |int b=>cases hy.int; obtain⟨t,rfl⟩:=ry; exact⟨SeqAt.EqAt.bool_int a b t,SeqAt.RcAt.bool_int a b t⟩
   |str b=>cases hy.str; obtain⟨t,rfl⟩:=ry; exact⟨SeqAt.EqAt.bool_str a b t,SeqAt.RcAt.bool_str a b t⟩
  |int a=>
   cases hx.int; obtain⟨t',rfl⟩:=rx
   cases e with
   |loc _=>simp[M.flat]at fe
   |lst _=>simp[M.flat]at fe
   |tup _=>simp[M.flat]at fe
   |non=>cases hy.non; cases ry; exact⟨SeqAt.EqAt.int_none a t',SeqAt.RcAt.int_none a t'⟩
   |bl b=>cases hy.bl; cases ry; exact⟨SeqAt.EqAt.int_bool a t' b,SeqAt.RcAt.int_bool a t' b⟩
   |int b=>cases hy.int; obtain⟨t,rfl⟩:=ry; exact⟨SeqAt.EqAt.int_int a t' b t,SeqAt.RcAt.int_int a t' b t⟩
   |str b=>cases hy.str; obtain⟨t,rfl⟩:=ry; exact⟨SeqAt.EqAt.int_str a t' b t,SeqAt.RcAt.int_str a t' b t⟩
  |str a=>
   cases hx.str; obtain⟨t',rfl⟩:=rx
   cases e with
   |loc _=>simp[M.flat]at fe
   |lst _=>simp[M.flat]at fe
   |tup _=>simp[M.flat]at fe
   |non=>cases hy.non; cases ry; exact⟨SeqAt.EqAt.str_none a t',SeqAt.RcAt.str_none a t'⟩
   |bl b=>cases hy.bl; cases ry; exact⟨SeqAt.EqAt.str_bool a t' b,SeqAt.RcAt.str_bool a t' b⟩
   |int b=>cases hy.int; obtain⟨t,rfl⟩:=ry; exact⟨SeqAt.EqAt.str_int a t' b t,SeqAt.RcAt.str_int a t' b t⟩
   |str b=>cases hy.str; obtain⟨t,rfl⟩:=ry; exact⟨SeqAt.EqAt.str_str a t' b t,SeqAt.RcAt.str_str a t' b t⟩
 |succ n ih=>
  intro A d e x y u v hu f fe hx hy rx ry
  have hu0:A.units<cLine:=by omega
  cases d with
  |loc _=>simp[M.flat]at f
  |lst _=>simp[M.flat]at f
  |tup ds=>
   obtain⟨a,xs,its,rfl,hq,ix,r1,p1⟩:=isD_tuple I hx
   cases rx
   cases e with
   |loc _=>simp[M.flat]at fe
   |lst _=>simp[M.flat]at fe
   |non=>cases hy.non; cases ry; exact⟨SeqAt.EqAt.tuple_none p1 hu0,SeqAt.RcAt.tuple_none p1 hu0⟩
   |bl b=>cases hy.bl; cases ry; exact⟨SeqAt.EqAt.tuple_bool b p1 hu0,SeqAt.RcAt.tuple_bool b p1 hu0⟩
   |int b=>cases hy.int; obtain⟨t,rfl⟩:=ry; exact⟨SeqAt.EqAt.tuple_int b t p1 hu0,SeqAt.RcAt.tuple_int b t p1 hu0⟩
   |str b=>cases hy.str; obtain⟨t,rfl⟩:=ry; exact⟨SeqAt.EqAt.tuple_str b t p1 hu0,SeqAt.RcAt.tuple_str b t p1 hu0⟩
   |tup es=>
    obtain⟨b,ys,its2,rfl,hq2,iy,r2,p2⟩:=isD_tuple I hy
    cases ry
    have l1:=ix.length
    have l2:=iy.length
    have l3:=r1.length
    have l4:=r2.length
    simp only[M.flat]at f fe
    have he:∀ j (h1:j<its.toArray.size) (h2:j<its2.toArray.size),SeqAt.EqAt A.in1 s its.toArray[j] its2.toArray[j] (pairE ds es j):=by
     intro j h1 h2
     rw[List.size_toArray]at h1 h2
     have j1:j<ds.length:=by omega
     have j2:j<es.length:=by omega
     have g1:ds[j]?=some ds[j]:=by simp
     have g2:es[j]?=some es[j]:=by simp
     obtain⟨x1,k1,q1⟩:=ix.get g1
     obtain⟨x2,k2,q2⟩:=iy.get g2
     obtain⟨u1,w1,z1⟩:=r1.get k1
     obtain⟨u2,w2,z2⟩:=r2.get k2
     have fl:∀ (l:List D) (k:Nat) (hk:k<l.length),M.flats n l=true→M.flat n l[k]=true:=by
      intro l
      induction l with
      |nil=>intro k hk; cases hk
      |cons c l ihl=>
       intro k hk hf
       simp only[M.flats,Bool.and_eq_true]at hf
       cases k with
       |zero=>exact hf.1
       |succ k=>exact ihl k (by simpa using hk) hf.2
     have:=(ih A.in1 ds[j] es[j] x1 x2 u1 u2 (by have hz:A.in1.units=A.units+1:=rfl; omega) (fl ds j j1 f) (fl es j j2 fe) q1 q2 z1 z2).1
     have e1:its.toArray[j]=u1:=by
      have:its[j]?=some its[j]:=by simp
      rw[w1]at this
      simpa using (Option.some.inj this).symm
     have e2:its2.toArray[j]=u2:=by
      have:its2[j]?=some its2[j]:=by simp
      rw[w2]at this
      simpa using (Option.some.inj this).symm
     rw[e1,e2]
     have e3:pairE ds es j=M.eqT ds[j] es[j]:=by
      unfold pairE
      rw[g1,g2]
     rw[e3]
     exact this
    have rc:SeqAt.RcAt A s (.ref a) (.ref b) (M.eqT (.tup ds) (.tup es)):=by
     have:=SeqAt.RcAt.tuples p1 p2 hu0 he
     simp only[M.eqT]
     rw[eqTs_pair,l1,l2,l3,l4]
     simpa using this
    refine⟨?_,rc⟩
    by_cases hab:a=b
    ·subst hab
     have:=I.tuple_inj hq hq2
     subst this
     have e0:=isDs_inj I n ds es xs f fe ix iy
     subst e0
     have e1:M.eqT (.tup ds) (.tup ds)=true:=by
      simp only[M.eqT]
      exact eqTs_refl n ds f
     rw[e1]
     exact SeqAt.EqAt.same _
    ·exact SeqAt.EqAt.of_refs hab rc
  |non=>
   cases hx.non; cases rx
   cases e with
   |loc _=>simp[M.flat]at fe
   |lst _=>simp[M.flat]at fe
   |tup es=>
    obtain⟨b,ys,its2,rfl,hq2,iy,r2,p2⟩:=isD_tuple I hy
    cases ry
    exact⟨SeqAt.EqAt.none_tuple p2 hu0,SeqAt.RcAt.none_tuple p2 hu0⟩
   |non=>cases hy.non; cases ry; exact⟨SeqAt.EqAt.same _,SeqAt.RcAt.none_none⟩
   |bl b=>cases hy.bl; cases ry; exact⟨SeqAt.EqAt.none_bool b,SeqAt.RcAt.none_bool b⟩
   |int b=>cases hy.int; obtain⟨t,rfl⟩:=ry; exact⟨SeqAt.EqAt.none_int b t,SeqAt.RcAt.none_int b t⟩
   |str b=>cases hy.str; obtain⟨t,rfl⟩:=ry; exact⟨SeqAt.EqAt.none_str b t,SeqAt.RcAt.none_str b t⟩
  |bl a=>
   cases hx.bl; cases rx
   cases e with
   |loc _=>simp[M.flat]at fe
   |lst _=>simp[M.flat]at fe
   |tup es=>
    obtain⟨b,ys,its2,rfl,hq2,iy,r2,p2⟩:=isD_tuple I hy
    cases ry
    exact⟨SeqAt.EqAt.bool_tuple a p2 hu0,SeqAt.RcAt.bool_tuple a p2 hu0⟩
   |non=>cases hy.non; cases ry; exact⟨SeqAt.EqAt.bool_none a,SeqAt.RcAt.bool_none a⟩
   |bl b=>cases hy.bl; cases ry; exact⟨SeqAt.EqAt.bool_bool a b,SeqAt.RcAt.bool_bool a b⟩
   |int b=>cases hy.int; obtain⟨t,rfl⟩:=ry; exact⟨SeqAt.EqAt.bool_int a b t,SeqAt.RcAt.bool_int a b t⟩
   |str b=>cases hy.str; obtain⟨t,rfl⟩:=ry; exact⟨SeqAt.EqAt.bool_str a b t,SeqAt.RcAt.bool_str a b t⟩
  |int a=>
   cases hx.int; obtain⟨t',rfl⟩:=rx
   cases e with
   |loc _=>simp[M.flat]at fe
   |lst _=>simp[M.flat]at fe
   |tup es=>
    obtain⟨b,ys,its2,rfl,hq2,iy,r2,p2⟩:=isD_tuple I hy
    cases ry
    exact⟨SeqAt.EqAt.int_tuple a t' p2 hu0,SeqAt.RcAt.int_tuple a t' p2 hu0⟩
   |non=>cases hy.non; cases ry; exact⟨SeqAt.EqAt.int_none a t',SeqAt.RcAt.int_none a t'⟩
   |bl b=>cases hy.bl; cases ry; exact⟨SeqAt.EqAt.int_bool a t' b,SeqAt.RcAt.int_bool a t' b⟩
   |int b=>cases hy.int; obtain⟨t,rfl⟩:=ry; exact⟨SeqAt.EqAt.int_int a t' b t,SeqAt.RcAt.int_int a t' b t⟩
   |str b=>cases hy.str; obtain⟨t,rfl⟩:=ry; exact⟨SeqAt.EqAt.int_str a t' b t,SeqAt.RcAt.int_str a t' b t⟩
  |str a=>
   cases hx.str; obtain⟨t',rfl⟩:=rx
   cases e with
   |loc _=>simp[M.flat]at fe
   |lst _=>simp[M.flat]at fe
   |tup es=>
    obtain⟨b,ys,its2,rfl,hq2,iy,r2,p2⟩:=isD_tuple I hy
    cases ry
    exact⟨SeqAt.EqAt.str_tuple a t' p2 hu0,SeqAt.RcAt.str_tuple a t' p2 hu0⟩
   |non=>cases hy.non; cases ry; exact⟨SeqAt.EqAt.str_none a t',SeqAt.RcAt.str_none a t'⟩
   |bl b=>cases hy.bl; cases ry; exact⟨SeqAt.EqAt.str_bool a t' b,SeqAt.RcAt.str_bool a t' b⟩
   |int b=>cases hy.int; obtain⟨t,rfl⟩:=ry; exact⟨SeqAt.EqAt.str_int a t' b t,SeqAt.RcAt.str_int a t' b t⟩
   |str b=>cases hy.str; obtain⟨t,rfl⟩:=ry; exact⟨SeqAt.EqAt.str_str a t' b t,SeqAt.RcAt.str_str a t' b t⟩
theorem flats_get:∀ {n:Nat}{l:List D}{k:Nat}{d:D},M.flats n l=true→l[k]?=some d→M.flat n d=true
 |_,[],_,_,_,e=>by simp at e
 |n,c::l,0,d,f,e=>by
  simp only[M.flats,Bool.and_eq_true]at f
  have e':c=d:=by simpa using e
  rw[← e']; exact f.1
 |n,c::l,k+1,d,f,e=>by
  simp only[M.flats,Bool.and_eq_true]at f
  exact flats_get (k:=k) f.2 (by simpa using e)
end
end
end MS
end
section
namespace MS
open PySem PySem.Spec PyProof.Rows L2
noncomputable def Its(z:Str):It:=⟨fun i _=>i<z.cps.toList.length,fun i H x H'=>H'=H∧∃ c,z.cps.toList[i]?=some c∧x=.str ⟨#[c]⟩,fun i _=>z.cps.toList.length≤i⟩
theorem turn_text{P:Program}{w:World}{K:PySem.W.Frag}{tg:Expr}(z:Str)(t:Tok)(it:Addr):Turn P w K tg (Its z) [it] it (fun i h=>h.IsStrIter it "str_ascii_iterator" z t i) where
 mem:=by simp
 obj:=fun i h st b hb=>by
  have e:b=it:=by simpa using hb
  subst e
  obtain⟨o,e,c,d⟩:=st
  exact⟨o,e,fun v q=>by rw[d]at q; cases q⟩
 keep:=fun i h h' st k=>by
  obtain⟨o,e,r⟩:=st
  exact⟨o,k it (by simp) o e,r⟩
 item:=by
  intro X hP hw hK hc i pins s σ H E I hf st hg
  subst hP hw hK
  obtain⟨f0,f1,f2,f3,f4,f5⟩:=hf it (by simp)
  have hi:i<z.cps.toList.length:=hg
  have hx:z.cps[i]?=some (z.cps.toList[i]):=by
   rw[← Array.getElem?_toList]
   exact List.getElem?_eq_getElem hi
  refine wpAny_pyNext_ascii_item st hx fun h' st' sb=>?_
  have I1:Inv X pins σ H { s with heap:=h',toks:=s.toks+1 }:=I.turned (fun b o hb e=>(sb.2 b hb).trans e) f0 f1 f3 f4 f5
  obtain⟨o,e,c,d⟩:=id st'
  exact⟨_,rfl,go_of (s:={ s with heap:=h',toks:=s.toks+1 }) e c d (by decide) ⟨.str ⟨#[z.cps.toList[i]]⟩,H,I1,⟨_,rfl⟩,⟨rfl,_,List.getElem?_eq_getElem hi,rfl⟩,st',fun b hb=>(hf b hb).1⟩⟩
 done:=by
  intro X hP hw hK hc i pins s σ H E I hf st hg
  subst hP hw hK
  obtain⟨f0,f1,f2,f3,f4,f5⟩:=hf it (by simp)
  have hi:z.cps.toList.length≤i:=hg
  have hx:z.cps[i]?=none:=by
   rw[← Array.getElem?_toList]
   exact List.getElem?_eq_none hi
  exact wpAny_pyNext_ascii_end (I.ok.hd hc) st hx fun h' eb=>⟨rfl,I.turned (t':=s.toks) (fun b o hb e=>eb b o hb e) f0 f1 f3 f4 f5⟩
 self:=fun _ _ _ _ _ st h=>wpAny_pyIter_striter_ascii st h
section
variable {X:Cx}
theorem part_int{v:Value}{o:Option Int}(h:IsPart v o):∃ p:Option (Int×Tok),v=partValue p∧p.map (·.1)=o:=by
 cases h with
 |none=>exact⟨none,rfl,rfl⟩
 |int i t=>exact⟨some (i,t),rfl,rfl⟩
theorem idx_range(n:Nat)(lo hi:Option Int):Builtin.Str.strSliceIndices lo hi 1 n=PySem.sliceRange ((M.cutIx n 0 lo:Nat):Int) ((M.cutIx n n hi:Nat):Int) 1:=by
 have cl:∀ (o:Option Int) (d:Nat),d≤n→(match o with
   |none=>(d:Int)
   |some i=>max 0 (min (if i<0 then i+(n:Int) else i) (n:Int)))=((M.cutIx n d o:Nat):Int):=by
  intro o d hd
  cases o with
  |none=>rfl
  |some i=>
   simp only[M.cutIx]
   split<;>omega
 rw[← cl lo 0 (Nat.zero_le _),← cl hi n (Nat.le_refl _)]
 unfold Builtin.Str.strSliceIndices
 simp only[show((1:Int) > 0)=True from by simp,if_true]
 congr 2
theorem cutIx_le(n d:Nat)(o:Option Int)(h:d≤n):M.cutIx n d o≤n:=by
 cases o with
 |none=>exact h
 |some i=>
  simp only[M.cutIx]
  split<;>omega
theorem range_one(a b:Nat):PySem.sliceRange (a:Int) (b:Int) 1=(List.range (b - a)).map fun k=>a+k:=by
 unfold PySem.sliceRange
 simp only[show((1:Int) > 0)=True from by simp,if_true]
 by_cases h:(a:Int)<(b:Int)
 ·rw[if_pos h]
  have e:(((b:Int) - a+1 - 1) / 1).toNat=b - a:=by
   rw[Int.ediv_one]; omega
  rw[e]
  refine List.map_congr_left fun k _=>?_
  omega
 ·rw[if_neg h]
  have e:b - a=0:=by omega
  rw[e]
  rfl
theorem cut_text(z:Str)(lo hi:Option Int):(Builtin.Str.strSliceIndices lo hi 1 z.length).filterMap (z.cps[·]?)=M.cut z.cps.toList lo hi:=by
 have hl:z.cps.toList.length=z.length:=by simp[Str.length]
 have h1:=cutIx_le z.length 0 lo (Nat.zero_le _)
 have h2:=cutIx_le z.length z.length hi (Nat.le_refl _)
 rw[idx_range,range_one]
 unfold M.cut
 rw[hl]
 generalize M.cutIx z.length 0 lo=a at *
 generalize M.cutIx z.length z.length hi=b at *
 have e:∀ l:List Nat,l.filterMap (z.cps[·]?)=l.filterMap (z.cps.toList[·]?):=fun l=>by simp
 rw[e]
 by_cases hab:a≤b
 ·exact PySem.StrLaws.picks z.cps.toList (b - a) a (by omega)
 ·have e0:b - a=0:=by omega
  rw[e0]
  simp
theorem cut_whole(z:Str)(lo hi:Option Int)(h:(Builtin.Str.strSliceIndices lo hi 1 z.length).length=z.length):M.cut z.cps.toList lo hi=z.cps.toList:=by
 have hl:z.cps.toList.length=z.length:=by simp[Str.length]
 have h1:=cutIx_le z.length 0 lo (Nat.zero_le _)
 have h2:=cutIx_le z.length z.length hi (Nat.le_refl _)
 rw[idx_range,range_one,List.length_map,List.length_range]at h
 unfold M.cut
 rw[hl]
 generalize M.cutIx z.length 0 lo=a at *
 generalize M.cutIx z.length z.length hi=b at *
 by_cases h0:z.length=0
 ·have e:z.cps.toList=[]:=List.length_eq_zero_iff.mp (hl.trans h0)
  rw[e]; simp
 ·have ea:a=0:=by omega
  subst ea
  rw[List.drop_zero]
  exact List.take_of_length_le (by omega)
theorem sl_text:SlR X (fun x lo hi H Q=>∃ z,x=.str z∧z.length≤sizeLine∧Q (.str ⟨(M.cut z.cps.toList lo hi).toArray⟩) H):=by
 intro pins s σ H x v vl vu lo hi sl Q I rx hs pl pu h
 obtain⟨z,rfl,hz,q⟩:=h
 obtain⟨t,rfl⟩:=rx
 obtain⟨l,rfl,el⟩:=part_int pl
 obtain⟨u,rfl,eu⟩:=part_int pu
 have hsl:s.heap.IsSlice sl l u none:=hs
 refine⟨"str",_,PySem.F.slot_str_getitem.lookup,typeIs_str s z t,?_⟩
 have el:l.map (·.1)=lo:=el
 have eu:u.map (·.1)=hi:=eu
 have hpick:slicePicked z l u none=Builtin.Str.strSliceIndices lo hi 1 z.length:=by unfold slicePicked; rw[el,eu]; rfl
 have hcut:=cut_text z lo hi
 have hl:z.cps.toList.length=z.length:=by simp[Str.length]
 have clen:(M.cut z.cps.toList lo hi).length≤z.length:=by
  unfold M.cut
  rw[List.length_take,List.length_drop,hl]
  omega
 refine wpAny_getItem_str_slice hsl (by decide) ?_
 unfold sliceMade
 rw[hpick,hcut]
 refine post_val_or_str ⟨?_,fun t' k=>?_⟩
 ·split
  ·exact hz
  ·show(M.cut z.cps.toList lo hi).toArray.size≤sizeLine
   rw[List.size_toArray]
   exact Nat.le_trans clen hz
 ·refine⟨.str ⟨(M.cut z.cps.toList lo hi).toArray⟩,H,I.tok k,⟨t',?_⟩,q⟩
  split
  ·rename_i hw
   rw[Bool.and_eq_true,beq_iff_eq,beq_iff_eq]at hw
   have hw2:(Builtin.Str.strSliceIndices lo hi 1 z.length).length=z.length:=hw.2
   have e:M.cut z.cps.toList lo hi=z.cps.toList:=cut_whole z lo hi hw2
   rw[e]
  ·rfl
theorem oneOf_eq{z:Str}{c:Nat}(h:M.oneOf z=some c):z=⟨#[c]⟩:=by
 obtain⟨cs⟩:=z
 unfold M.oneOf at h
 split at h
 ·rename_i d hd
  cases h
  have:cs=#[c]:=by
   apply Array.toList_inj.mp
   simpa using hd
  rw[this]
 ·cases h
end
end MS
end
section
namespace MS
open PySem PySem.Spec PyProof.Rows L2
open M (D Cell Store Sl)
section
variable {X:Cx}
section
variable {pins:List (Addr×Obj)}{σ:L2.St}{H:Hp}{s:Shared}{m:List Addr}
theorem ans_of(I:Inv X pins σ H s)(A:Around)(hu:A.units+9<cLine){d0:D}{x0:V}{u0:Value}(f0:M.flat 9 d0=true)(h0:IsD X.K m H d0 x0)(r0:RelV x0 u0):
  ∃ e:Value→Bool,∀ (ds:List D) (xs:List V) (its:List Value),M.flats 9 ds=true→IsDs X.K m H ds xs→Vals xs its→(∀ w∈its,SeqAt.EqAt A s w u0 (e w))∧its.any e=ds.any fun y=>M.eqT y d0:=by
 classical
 refine⟨fun w=>decide (∃ d x,M.flat 9 d=true∧IsD X.K m H d x∧RelV x w∧M.eqT d d0=true),fun ds=>?_⟩
 have key:∀ d x w,M.flat 9 d=true→IsD X.K m H d x→RelV x w→decide (∃ d x,M.flat 9 d=true∧IsD X.K m H d x∧RelV x w∧M.eqT d d0=true)=M.eqT d d0:=by
  intro d x w f i r
  cases q:M.eqT d d0 with
  |true=>exact decide_eq_true ⟨d,x,f,i,r,q⟩
  |false=>
   refine decide_eq_false ?_
   rintro⟨d',x',f',i',r',q'⟩
   have e1:=r.inj r'
   subst e1
   have e2:=isD_inj I 9 d d' x f f' i i'
   subst e2
   rw[q]at q'
   cases q'
 induction ds with
 |nil=>
  intro xs its _ ix r
  rw[ix.nil]at r
  cases r
  exact⟨fun w hw=>(by cases hw),rfl⟩
 |cons d ds ih=>
  intro xs its f ix r
  obtain⟨x,xr,rfl,q,t⟩:=ix.cons
  simp only[M.flats,Bool.and_eq_true]at f
  cases r with
  |@cons _ u _ us r1 r2=>
   obtain⟨a1,a2⟩:=ih xr us f.2 t r2
   refine⟨fun w hw=>?_,?_⟩
   ·rcases List.mem_cons.mp hw with z|z
    ·subst z
     show SeqAt.EqAt A s w u0 (decide _)
     rw[key d x w f.1 q r1]
     exact(eqAt_D I 9 A d d0 x x0 w u0 hu f.1 f0 q h0 r1 r0).1
    ·exact a1 w z
   ·rw[List.any_cons,List.any_cons,a2]
    congr 1
    exact key d x u f.1 q r1
end
theorem items_eq{pins:List (Addr×Obj)}{σ:L2.St}{H:Hp}{s:Shared}{m:List Addr}(I:Inv X pins σ H s)(A:Around)(n:Nat)(hu:A.units+n<cLine){ds es:List D}{xs ys:List V}{its its2:List Value}(f:M.flats n ds=true)(fe:M.flats n es=true)(ix:IsDs X.K m H ds xs)(iy:IsDs X.K m H es ys)(r1:Vals xs its)(r2:Vals ys its2)
  (j:Nat) (h1:j<its.toArray.size) (h2:j<its2.toArray.size):SeqAt.EqAt A s its.toArray[j] its2.toArray[j] (pairE ds es j):=by
 have l1:=ix.length
 have l2:=iy.length
 have l3:=r1.length
 have l4:=r2.length
 rw[List.size_toArray]at h1 h2
 have j1:j<ds.length:=by omega
 have j2:j<es.length:=by omega
 have g1:ds[j]?=some ds[j]:=by simp
 have g2:es[j]?=some es[j]:=by simp
 obtain⟨x1,k1,q1⟩:=ix.get g1
 obtain⟨x2,k2,q2⟩:=iy.get g2
 obtain⟨u1,w1,z1⟩:=r1.get k1
 obtain⟨u2,w2,z2⟩:=r2.get k2
 have this:=(eqAt_D I n A ds[j] es[j] x1 x2 u1 u2 hu (flats_get f g1) (flats_get fe g2) q1 q2 z1 z2).1
 have e1:its.toArray[j]=u1:=by
  have:its[j]?=some its[j]:=by simp
  rw[w1]at this
  simpa using (Option.some.inj this).symm
 have e2:its2.toArray[j]=u2:=by
  have:its2[j]?=some its2[j]:=by simp
  rw[w2]at this
  simpa using (Option.some.inj this).symm
 rw[e1,e2]
 have e3:pairE ds es j=M.eqT ds[j] es[j]:=by
  unfold pairE
  rw[g1,g2]
 rw[e3]
 exact this
theorem op_inD(hu:X.A.units+64<cLine):OpR X (compareOp .In) (rD X.K fun st a b=>(M.inD st a b).map fun k=>(.bl k,st)):=by
 intro pins s σ H x y v u Q I rx ry h
 refine h.el fun m st a b d st' R0 i1 i2 e q=>?_
 obtain⟨k,e1,e2⟩:=mapD e
 cases e2
 have hu1:X.A.in1.units+9<cLine:=by have hz:X.A.in1.units=X.A.units+1:=rfl; omega
 cases b with
 |tup ds=>
  simp only[M.inD]at e1
  split at e1
  ·rename_i hf
   cases e1
   rw[Bool.and_eq_true]at hf
   obtain⟨p,xs,its,rfl,hq,ix,r,pl⟩:=isD_tuple I i2
   cases ry
   obtain⟨ef,ha⟩:=ans_of I X.A.in1 hu1 hf.1 i1 rx
   obtain⟨h1,h2⟩:=ha ds xs its hf.2 ix r
   refine SeqAt.in_tupleAt ef pl (fun w hw=>h1 w (by simpa using hw)) ⟨.bl _,H,I,rfl,?_⟩
   rw[show its.toArray.any ef=its.any ef by simp,h2]
   exact q.here R0 (mkBl _)
  ·cases e1
 |loc l=>
  simp only[M.inD]at e1
  obtain⟨ds,e2,e1⟩:=bindO e1
  split at e1
  ·rename_i hf
   cases e1
   rw[Bool.and_eq_true]at hf
   obtain⟨p,xs,_,rfl,hq,ix⟩:=R0.seq e2 i2
   cases ry
   obtain⟨its,r,pl,_⟩:=I.list hq
   obtain⟨ef,ha⟩:=ans_of I X.A.in1 hu1 hf.1 i1 rx
   obtain⟨h1,h2⟩:=ha ds xs its hf.2 ix r
   refine SeqAt.in_listAt ef pl.isList (fun w hw=>h1 w (by simpa using hw)) ⟨.bl _,H,I,rfl,?_⟩
   rw[show its.toArray.any ef=its.any ef by simp,h2]
   exact q.here R0 (mkBl _)
  ·cases e1
 |lst l=>
  simp only[M.inD]at e1
  obtain⟨ds,e2,e1⟩:=bindO e1
  split at e1
  ·rename_i hf
   cases e1
   rw[Bool.and_eq_true]at hf
   obtain⟨p,xs,_,rfl,hq,ix⟩:=R0.seq e2 i2
   cases ry
   obtain⟨its,r,pl,_⟩:=I.list hq
   obtain⟨ef,ha⟩:=ans_of I X.A.in1 hu1 hf.1 i1 rx
   obtain⟨h1,h2⟩:=ha ds xs its hf.2 ix r
   refine SeqAt.in_listAt ef pl.isList (fun w hw=>h1 w (by simpa using hw)) ⟨.bl _,H,I,rfl,?_⟩
   rw[show its.toArray.any ef=its.any ef by simp,h2]
   exact q.here R0 (mkBl _)
  ·cases e1
 |str z=>
  simp only[M.inD]at e1
  cases a with
  |str y0=>
   obtain⟨c,e3,e4⟩:=mapD e1
   have hy:=oneOf_eq e3
   subst hy
   subst e4
   refine op_in_str pins s σ H x y v u Q I rx ry ⟨_,_,i1.str,i2.str,?_⟩
   rw[PySem.StrLaws.found_one]
   exact q.here R0 (mkBl _)
  |_=>cases e1
 |_=>simp[M.inD,M.seqAt]at e1
theorem op_notInD(hu:X.A.units+64<cLine):OpR X (compareOp .NotIn) (rD X.K fun st a b=>((M.inD st a b).map (!·)).map fun k=>(.bl k,st)):=by
 intro pins s σ H x y v u Q I rx ry h
 refine h.el fun m st a b d st' R0 i1 i2 e q=>?_
 obtain⟨k0,e0,e2⟩:=mapD e
 cases e2
 obtain⟨k,e1,e3⟩:=mapD e0
 subst e3
 have hu1:X.A.in1.units+9<cLine:=by have hz:X.A.in1.units=X.A.units+1:=rfl; omega
 cases b with
 |tup ds=>
  simp only[M.inD]at e1
  split at e1
  ·rename_i hf
   cases e1
   rw[Bool.and_eq_true]at hf
   obtain⟨p,xs,its,rfl,hq,ix,r,pl⟩:=isD_tuple I i2
   cases ry
   obtain⟨ef,ha⟩:=ans_of I X.A.in1 hu1 hf.1 i1 rx
   obtain⟨h1,h2⟩:=ha ds xs its hf.2 ix r
   refine SeqAt.notIn_tupleAt ef pl (fun w hw=>h1 w (by simpa using hw)) ⟨.bl _,H,I,rfl,?_⟩
   rw[show its.toArray.any ef=its.any ef by simp,h2]
   exact q.here R0 (mkBl _)
  ·cases e1
 |loc l=>
  simp only[M.inD]at e1
  obtain⟨ds,e2,e1⟩:=bindO e1
  split at e1
  ·rename_i hf
   cases e1
   rw[Bool.and_eq_true]at hf
   obtain⟨p,xs,_,rfl,hq,ix⟩:=R0.seq e2 i2
   cases ry
   obtain⟨its,r,pl,_⟩:=I.list hq
   obtain⟨ef,ha⟩:=ans_of I X.A.in1 hu1 hf.1 i1 rx
   obtain⟨h1,h2⟩:=ha ds xs its hf.2 ix r
   refine SeqAt.notIn_listAt ef pl.isList (fun w hw=>h1 w (by simpa using hw)) ⟨.bl _,H,I,rfl,?_⟩
   rw[show its.toArray.any ef=its.any ef by simp,h2]
   exact q.here R0 (mkBl _)
  ·cases e1
 |lst l=>
  simp only[M.inD]at e1
  obtain⟨ds,e2,e1⟩:=bindO e1
  split at e1
  ·rename_i hf
   cases e1
   rw[Bool.and_eq_true]at hf
   obtain⟨p,xs,_,rfl,hq,ix⟩:=R0.seq e2 i2
   cases ry
   obtain⟨its,r,pl,_⟩:=I.list hq
   obtain⟨ef,ha⟩:=ans_of I X.A.in1 hu1 hf.1 i1 rx
   obtain⟨h1,h2⟩:=ha ds xs its hf.2 ix r
   refine SeqAt.notIn_listAt ef pl.isList (fun w hw=>h1 w (by simpa using hw)) ⟨.bl _,H,I,rfl,?_⟩
   rw[show its.toArray.any ef=its.any ef by simp,h2]
   exact q.here R0 (mkBl _)
  ·cases e1
 |str z=>
  simp only[M.inD]at e1
  cases a with
  |str y0=>
   obtain⟨c,e3,e4⟩:=mapD e1
   have hy:=oneOf_eq e3
   subst hy
   subst e4
   refine op_notin_str pins s σ H x y v u Q I rx ry ⟨_,_,i1.str,i2.str,?_⟩
   rw[PySem.StrLaws.found_one]
   exact q.here R0 (mkBl _)
  |_=>cases e1
 |_=>simp[M.inD,M.seqAt]at e1
theorem op_eqD(hu:X.A.units+64<cLine):OpR X (compareOp .Eq) (rD X.K fun st a b=>(M.eqD st a b).map fun k=>(.bl k,st)):=by
 intro pins s σ H x y v u Q I rx ry h
 refine h.el fun m st a b d st' R0 i1 i2 e q=>?_
 obtain⟨k,e1,e2⟩:=mapD e
 cases e2
 have e1:M.eqD st a b=some k:=e1
 unfold M.eqD at e1
 split at e1
 ·rename_i ds es g1 g2
  split at e1
  ·rename_i hf
   cases e1
   rw[Bool.and_eq_true]at hf
   obtain⟨p,xs,_,rfl,hq,ix⟩:=R0.seq g1 i1
   obtain⟨p',ys,_,rfl,hq',iy⟩:=R0.seq g2 i2
   cases rx
   cases ry
   obtain⟨its,r1,pl,_⟩:=I.list hq
   obtain⟨its2,r2,pl2,_⟩:=I.list hq'
   have l1:=ix.length
   have l2:=iy.length
   have l3:=r1.length
   have l4:=r2.length
   by_cases hsz:its.toArray.size=its2.toArray.size
   ·refine SeqAt.RcAt.lists (e:=pairE ds es) pl.isList pl2.isList hsz (by omega) (fun j h1 h2=>?_) _ _ _ _ ⟨.bl _,H,I,rfl,?_⟩
    ·rw[List.size_toArray]at h1 h2
     have j1:j<ds.length:=by omega
     have j2:j<es.length:=by omega
     have g1:ds[j]?=some ds[j]:=by simp
     have g2:es[j]?=some es[j]:=by simp
     obtain⟨x1,k1,q1⟩:=ix.get g1
     obtain⟨x2,k2,q2⟩:=iy.get g2
     obtain⟨u1,w1,z1⟩:=r1.get k1
     obtain⟨u2,w2,z2⟩:=r2.get k2
     have this:=(eqAt_D I 9 X.A.in1 ds[j] es[j] x1 x2 u1 u2 (by have hz:X.A.in1.units=X.A.units+1:=rfl; omega) (flats_get hf.1 g1) (flats_get hf.2 g2) q1 q2 z1 z2).1
     have e1:its.toArray[j]=u1:=by
      have:its[j]?=some its[j]:=by simp
      rw[w1]at this
      simpa using (Option.some.inj this).symm
     have e2:its2.toArray[j]=u2:=by
      have:its2[j]?=some its2[j]:=by simp
      rw[w2]at this
      simpa using (Option.some.inj this).symm
     rw[e1,e2]
     have e3:pairE ds es j=M.eqT ds[j] es[j]:=by
      unfold pairE
      rw[g1,g2]
     rw[e3]
     exact this
    ·rw[List.size_toArray,List.size_toArray]at hsz
     have e5:(List.range its.toArray.size).all (pairE ds es)=M.eqTs ds es:=by
      rw[eqTs_same (by omega),List.size_toArray,← l3,← l1]
     rw[e5]
     exact q.here R0 (mkBl _)
   ·rw[List.size_toArray,List.size_toArray]at hsz
    have e5:M.eqTs ds es=false:=by
     rw[eqTs_pair]
     have:(ds.length==es.length)=false:=by simp; omega
     rw[this,Bool.and_false]
    rw[e5]at q
    refine SeqAt.RcAt.lists_lengths pl.isList pl2.isList (by simpa using hsz) (by omega) _ _ _ _ ⟨.bl _,H,I,rfl,q.here R0 (mkBl _)⟩
  ·cases e1
 ·split at e1
  ·rename_i hf
   cases e1
   rw[Bool.and_eq_true]at hf
   exact(eqAt_D I 9 X.A a b x y v u (by omega) hf.1 hf.2 i1 i2 rx ry).2 _ _ _ _ ⟨.bl _,H,I,rfl,q.here R0 (mkBl _)⟩
  ·cases e1
theorem neAt_D{pins:List (Addr×Obj)}{σ:L2.St}{H:Hp}{s:Shared}{m:List Addr}(I:Inv X pins σ H s)(A:Around)(d e:D)(x y:V)(u v:Value)(hu:A.units+10<cLine)(f:M.flat 9 d=true)(fe:M.flat 9 e=true)(hx:IsD X.K m H d x)(hy:IsD X.K m H e y)(rx:RelV x u)(ry:RelV y v):
  SeqAt.RcNeAt A s u v (!M.eqT d e):=by
 have hu0:A.units<cLine:=by omega
 cases d with
 |loc _=>simp[M.flat]at f
 |lst _=>simp[M.flat]at f
 |non=>
  cases hx.non; cases rx
  cases e with
  |loc _=>simp[M.flat]at fe
  |lst _=>simp[M.flat]at fe
  |tup es=>obtain⟨b,ys,its2,rfl,hq2,iy,r2,p2⟩:=isD_tuple I hy; cases ry; exact SeqAt.RcNeAt.none_tuple p2 hu0
  |non=>cases hy.non; cases ry; exact SeqAt.RcNeAt.none_none
  |bl b=>cases hy.bl; cases ry; exact SeqAt.RcNeAt.none_bool b
  |int b=>cases hy.int; obtain⟨t,rfl⟩:=ry; exact SeqAt.RcNeAt.none_int b t
  |str b=>cases hy.str; obtain⟨t,rfl⟩:=ry; exact SeqAt.RcNeAt.none_str b t
 |bl a=>
  cases hx.bl; cases rx
  cases e with
  |loc _=>simp[M.flat]at fe
  |lst _=>simp[M.flat]at fe
  |tup es=>obtain⟨b,ys,its2,rfl,hq2,iy,r2,p2⟩:=isD_tuple I hy; cases ry; exact SeqAt.RcNeAt.bool_tuple a p2 hu0
  |non=>cases hy.non; cases ry; exact SeqAt.RcNeAt.bool_none a
  |bl b=>cases hy.bl; cases ry; exact SeqAt.RcNeAt.bool_bool a b
  |int b=>cases hy.int; obtain⟨t,rfl⟩:=ry; exact SeqAt.RcNeAt.bool_int a b t
  |str b=>cases hy.str; obtain⟨t,rfl⟩:=ry; exact SeqAt.RcNeAt.bool_str a b t
 |int a=>
  cases hx.int; obtain⟨t',rfl⟩:=rx
  cases e with
  |loc _=>simp[M.flat]at fe
  |lst _=>simp[M.flat]at fe
  |tup es=>obtain⟨b,ys,its2,rfl,hq2,iy,r2,p2⟩:=isD_tuple I hy; cases ry; exact SeqAt.RcNeAt.int_tuple a t' p2 hu0
  |non=>cases hy.non; cases ry; exact SeqAt.RcNeAt.int_none a t'
  |bl b=>cases hy.bl; cases ry; exact SeqAt.RcNeAt.int_bool a t' b
  |int b=>cases hy.int; obtain⟨t,rfl⟩:=ry; exact SeqAt.RcNeAt.int_int a t' b t
  |str b=>cases hy.str; obtain⟨t,rfl⟩:=ry; exact SeqAt.RcNeAt.int_str a t' b t
 |str a=>
  cases hx.str; obtain⟨t',rfl⟩:=rx
  cases e with
  |loc _=>simp[M.flat]at fe
  |lst _=>simp[M.flat]at fe
  |tup es=>obtain⟨b,ys,its2,rfl,hq2,iy,r2,p2⟩:=isD_tuple I hy; cases ry; exact SeqAt.RcNeAt.str_tuple a t' p2 hu0
  |non=>cases hy.non; cases ry; exact SeqAt.RcNeAt.str_none a t'
  |bl b=>cases hy.bl; cases ry; exact SeqAt.RcNeAt.str_bool a t' b
  |int b=>cases hy.int; obtain⟨t,rfl⟩:=ry; exact SeqAt.RcNeAt.str_int a t' b t
  |str b=>cases hy.str; obtain⟨t,rfl⟩:=ry; exact SeqAt.RcNeAt.str_str a t' b t
 |tup ds=>
  obtain⟨a,xs,its,rfl,hq,ix,r1,p1⟩:=isD_tuple I hx
  cases rx
  cases e with
  |loc _=>simp[M.flat]at fe
  |lst _=>simp[M.flat]at fe
  |non=>cases hy.non; cases ry; exact SeqAt.RcNeAt.tuple_none p1 hu0
  |bl b=>cases hy.bl; cases ry; exact SeqAt.RcNeAt.tuple_bool b p1 hu0
  |int b=>cases hy.int; obtain⟨t,rfl⟩:=ry; exact SeqAt.RcNeAt.tuple_int b t p1 hu0
  |str b=>cases hy.str; obtain⟨t,rfl⟩:=ry; exact SeqAt.RcNeAt.tuple_str b t p1 hu0
  |tup es=>
   obtain⟨b,ys,its2,rfl,hq2,iy,r2,p2⟩:=isD_tuple I hy
   cases ry
   have l1:=ix.length
   have l2:=iy.length
   have l3:=r1.length
   have l4:=r2.length
   simp only[M.flat]at f fe
   have he:∀ j (h1:j<its.toArray.size) (h2:j<its2.toArray.size),SeqAt.EqAt A.in1 s its.toArray[j] its2.toArray[j] (pairE ds es j):=fun j h1 h2=>items_eq I A.in1 8 (by have hz:A.in1.units=A.units+1:=rfl; omega) f fe ix iy r1 r2 j h1 h2
   have:=SeqAt.RcNeAt.tuples p1 p2 hu0 he
   simp only[M.eqT]
   rw[eqTs_pair,l1,l2,l3,l4]
   simpa using this
theorem op_neD(hu:X.A.units+64<cLine):OpR X (compareOp .NotEq) (rD X.K fun st a b=>(M.neD st a b).map fun k=>(.bl k,st)):=by
 intro pins s σ H x y v u Q I rx ry h
 obtain⟨m,st,a,b,d,st',R0,i1,i2,e,q⟩:=h
 obtain⟨k0,e0,e2⟩:=mapD e
 cases e2
 obtain⟨k,e1,e3⟩:=mapD e0
 subst e3
 have e1:M.eqD st a b=some k:=e1
 unfold M.eqD at e1
 split at e1
 ·rename_i ds es g1 g2
  split at e1
  ·rename_i hf
   cases e1
   rw[Bool.and_eq_true]at hf
   obtain⟨p,xs,_,rfl,hq,ix⟩:=R0.seq g1 i1
   obtain⟨p',ys,_,rfl,hq',iy⟩:=R0.seq g2 i2
   cases rx
   cases ry
   obtain⟨its,r1,pl,_⟩:=I.list hq
   obtain⟨its2,r2,pl2,_⟩:=I.list hq'
   have l1:=ix.length
   have l2:=iy.length
   have l3:=r1.length
   have l4:=r2.length
   by_cases hsz:its.toArray.size=its2.toArray.size
   ·refine SeqAt.RcNeAt.lists (e:=pairE ds es) pl.isList pl2.isList hsz (by omega) (fun j h1 h2=>items_eq I X.A.in1 9 (by have hz:X.A.in1.units=X.A.units+1:=rfl; omega) hf.1 hf.2 ix iy r1 r2 j h1 h2) _ _ _ _ ⟨.bl _,H,I,rfl,?_⟩
    rw[List.size_toArray,List.size_toArray]at hsz
    have e5:(List.range its.toArray.size).all (pairE ds es)=M.eqTs ds es:=by
     rw[eqTs_same (by omega),List.size_toArray,← l3,← l1]
    rw[e5]
    exact q.here R0 (mkBl _)
   ·rw[List.size_toArray,List.size_toArray]at hsz
    have e5:M.eqTs ds es=false:=by
     rw[eqTs_pair]
     have:(ds.length==es.length)=false:=by simp; omega
     rw[this,Bool.and_false]
    rw[e5]at q
    refine SeqAt.RcNeAt.lists_lengths pl.isList pl2.isList (by simpa using hsz) (by omega) _ _ _ _ ⟨.bl _,H,I,rfl,q.here R0 (mkBl _)⟩
  ·cases e1
 ·split at e1
  ·rename_i hf
   cases e1
   rw[Bool.and_eq_true]at hf
   exact neAt_D I X.A a b x y v u (by omega) hf.1 hf.2 i1 i2 rx ry _ _ _ _ ⟨.bl _,H,I,rfl,q.here R0 (mkBl _)⟩
  ·cases e1
theorem isNon_of{K:PySem.W.Frag}{m:List Addr}{H:Hp}{d:D}{x:V}(h:IsD K m H d x):decide (x=.non)=M.isNon d:=by
 cases d with
 |non=>rw[h.non]; rfl
 |bl b=>rw[h.bl]; rfl
 |int b=>rw[h.int]; rfl
 |str b=>rw[h.str]; rfl
 |tup ds=>obtain⟨a,xs,rfl,_⟩:=h.tup; rfl
 |loc l=>obtain⟨a,_,rfl⟩:=h.loc; rfl
 |lst l=>obtain⟨a,xs,rfl,_⟩:=h.lst; rfl
theorem op_cmpD(hu:X.A.units+64<cLine)(op:CmpOp):OpR X (compareOp op) (rD X.K fun st a b=>(M.cmpD st op a b).map fun k=>(.bl k,st)):=by
 intro pins s σ H x y v u Q I rx ry h
 obtain⟨m,st,a,b,d,st',R0,i1,i2,e,q⟩:=h
 obtain⟨k,e1,e2⟩:=mapD e
 cases e2
 have e1:M.cmpD st op a b=some k:=e1
 unfold M.cmpD at e1
 split at e1
 ·cases e1
  exact op_lt pins s σ H x y v u Q I rx ry ⟨_,_,i1.int,i2.int,q.here R0 (mkBl _)⟩
 ·cases e1
  exact op_le pins s σ H x y v u Q I rx ry ⟨_,_,i1.int,i2.int,q.here R0 (mkBl _)⟩
 ·cases e1
  exact op_gt pins s σ H x y v u Q I rx ry ⟨_,_,i1.int,i2.int,q.here R0 (mkBl _)⟩
 ·cases e1
  exact op_ge pins s σ H x y v u Q I rx ry ⟨_,_,i1.int,i2.int,q.here R0 (mkBl _)⟩
 ·exact op_eqD hu pins s σ H x y v u Q I rx ry ⟨m,st,a,b,_,_,R0,i1,i2,by dsimp only; rw[e1]; rfl,q⟩
 ·exact op_neD hu pins s σ H x y v u Q I rx ry ⟨m,st,a,b,_,_,R0,i1,i2,by dsimp only; rw[e1]; rfl,q⟩
 ·cases e1
  refine op_isN pins s σ H x y v u Q I rx ry ⟨i2.non,?_⟩
  rw[isNon_of i1]
  exact q.here R0 (mkBl _)
 ·cases e1
  refine op_notN pins s σ H x y v u Q I rx ry ⟨i2.non,?_⟩
  rw[isNon_of i1]
  exact q.here R0 (mkBl _)
 ·exact op_inD hu pins s σ H x y v u Q I rx ry ⟨m,st,a,b,_,_,R0,i1,i2,by dsimp only; rw[e1]; rfl,q⟩
 ·exact op_notInD hu pins s σ H x y v u Q I rx ry ⟨m,st,a,b,_,_,R0,i1,i2,by dsimp only; rw[e1]; rfl,q⟩
 ·cases e1
theorem truV_of{K:PySem.W.Frag}{m:List Addr}{st:Store}{H:Hp}{d:D}{x:V}{k:Bool}(R0:Rel K m st H)(h:IsD K m H d x)(e:M.truth st d=some k):TruV K x H k:=by
 cases d with
 |non=>rw[h.non]; simp only[M.truth]at e; exact(Option.some.inj e).symm
 |bl b=>rw[h.bl]; simp only[M.truth]at e; exact(Option.some.inj e).symm
 |int b=>rw[h.int]; simp only[M.truth]at e; exact(Option.some.inj e).symm
 |str b=>
  rw[h.str]
  simp only[M.truth]at e
  split at e
  ·cases e
  ·have l3:=lim_eq
   exact⟨by omega,(Option.some.inj e).symm⟩
 |tup ds=>
  obtain⟨a,xs,rfl,hq,ix⟩:=h.tup
  simp only[M.truth]at e
  refine .inr (.inl ⟨xs,hq,?_⟩)
  have:=ix.length
  cases e
  cases ds<;>cases xs<;>simp_all
 |loc l=>
  simp only[M.truth]at e
  obtain⟨ds,e1,e2⟩:=mapD e
  obtain⟨a,xs,_,rfl,hq,ix⟩:=R0.seq e1 h
  refine .inl ⟨xs,hq,?_⟩
  have:=ix.length
  subst e2
  cases ds<;>cases xs<;>simp_all
 |lst l=>
  simp only[M.truth]at e
  obtain⟨ds,e1,e2⟩:=mapD e
  obtain⟨a,xs,_,rfl,hq,ix⟩:=R0.seq e1 h
  refine .inl ⟨xs,hq,?_⟩
  have:=ix.length
  subst e2
  cases ds<;>cases xs<;>simp_all
theorem atI_of{K:PySem.W.Frag}{m:List Addr}{H:Hp}{ds:List D}{xs:List V}{i:Int}{d:D}(ix:IsDs K m H ds xs)(e:M.atI ds i=some d):∃ x,L2.atI xs i=some x∧IsD K m H d x:=by
 unfold M.atI at e
 obtain⟨j,e1,e2⟩:=bindO e
 obtain⟨x,e3,q⟩:=ix.get e2
 refine⟨x,?_,q⟩
 unfold L2.atI
 have e4:L2.ixN xs.length i=some j:=by rw[← ix.length]; exact e1
 rw[e4]
 exact e3
theorem ix_D:IxR X (rD X.K fun st a b=>(M.idxD st a b).map fun d=>(d,st)):=by
 intro value slice pins s σ H x y v u Q I rx ry h hs
 obtain⟨m,st,a,b,d,st',R0,i1,i2,e,q⟩:=h
 obtain⟨k,e1,e2⟩:=mapD e
 cases e2
 have e1:M.idxD st a b=some d:=e1
 unfold M.idxD at e1
 split at e1
 ·obtain⟨p,xs,rfl,hq,ix⟩:=i1.tup
  obtain⟨w,e3,iw⟩:=atI_of ix e1
  exact ix_tup value slice pins s σ H _ _ v u Q I rx ry ⟨p,xs,_,w,rfl,i2.int,hq,e3,q.here R0 iw⟩ hs
 ·split at e1
  ·cases e1
  ·obtain⟨c,e3,e4⟩:=mapD e1
   subst e4
   have l3:=lim_eq
   exact ix_str value slice pins s σ H _ _ v u Q I rx ry ⟨_,_,c,i1.str,i2.int,by omega,e3,q.here R0 (mkStr _)⟩ hs
 ·obtain⟨ds,e2,e1⟩:=bindO e1
  obtain⟨p,xs,_,rfl,hq,ix⟩:=R0.seq e2 i1
  obtain⟨w,e3,iw⟩:=atI_of ix e1
  exact ix_list value slice pins s σ H _ _ v u Q I rx ry ⟨p,xs,_,w,rfl,i2.int,hq,e3,q.here R0 iw⟩ hs
 ·cases e1
theorem mt_appendD:MtM X "list.append" (fun x xs H Q=>∃ m st a ds d st',Rel X.K m st H∧IsD X.K m H a x∧IsDs X.K m H ds xs∧M.mAppend st a ds=some (d,st')∧Post X.K m H d st' Q):=by
 intro pins s σ H x xs v us Q I rx rs h
 obtain⟨m,st,a,ds,d,st',R0,i1,i2,e,q⟩:=h
 unfold M.mAppend at e
 split at e
 ·obtain⟨ds0,e1,e⟩:=bindO e
  split at e
  ·rename_i hl
   cases e
   obtain⟨p,ys,hm,rfl,hp,ix,hs⟩:=R0.wlist e1 i1
   obtain⟨y,rfl,iy⟩:=i2.one
   have l1:=ix.length
   have l2:=lim_eq
   refine mt_append pins s σ H _ _ v us Q I rx rs ⟨p,ys,y,rfl,rfl,hp,by omega,?_⟩
   exact q _ m _ (Sub.refl m) (Tr.put hp) (R0.put hs hm hp (ix.append (mkCons iy mkNil))) mkNon
  ·cases e
 ·cases e
def rSlD(K:PySem.W.Frag):V→Option Int→Option Int→Hp→VK→Prop:=fun x lo hi H Q=>∃ m st a d st',Rel K m st H∧IsD K m H a x∧M.sliD st a lo hi=some (d,st')∧Post K m H d st' Q
theorem _root_.MS.IsDs.take{K:PySem.W.Frag}{m:List Addr}{H:Hp}:∀ {ds:List D}{xs:List V}(n:Nat),IsDs K m H ds xs→IsDs K m H (ds.take n) (xs.take n)
 |_,_,0,_=>by simp only[List.take_zero]; exact mkNil
 |[],_,n+1,h=>by rw[h.nil]; simp only[List.take_nil]; exact mkNil
 |d::ds,_,n+1,h=>by
  obtain⟨x,r,rfl,q,t⟩:=h.cons
  simp only[List.take_succ_cons]
  exact mkCons q (IsDs.take n t)
theorem _root_.MS.IsDs.drop{K:PySem.W.Frag}{m:List Addr}{H:Hp}:∀ {ds:List D}{xs:List V}(n:Nat),IsDs K m H ds xs→IsDs K m H (ds.drop n) (xs.drop n)
 |_,_,0,h=>by simp only[List.drop_zero]; exact h
 |[],_,n+1,h=>by rw[h.nil]; simp only[List.drop_nil]; exact mkNil
 |d::ds,_,n+1,h=>by
  obtain⟨x,r,rfl,q,t⟩:=h.cons
  simp only[List.drop_succ_cons]
  exact IsDs.drop n t
theorem cutIx_eq(n d:Nat)(o:Option Int):M.cutIx n d o=HT.sIx n d o:=by
 cases o<;>rfl
theorem cut_of{K:PySem.W.Frag}{m:List Addr}{H:Hp}{ds:List D}{xs:List V}(h:IsDs K m H ds xs)(lo hi:Option Int):IsDs K m H (M.cut ds lo hi) (cutV xs lo hi):=by
 unfold M.cut cutV
 rw[cutIx_eq,cutIx_eq,h.length]
 exact(h.drop _).take _
theorem sl_D:SlR X (rSlD X.K):=by
 intro pins s σ H x v vl vu lo hi sl Q I rx hs pl pu h
 obtain⟨m,st,a,d,st',R0,i1,e,q⟩:=h
 unfold M.sliD at e
 split at e
 ·cases e
  obtain⟨p,xs,rfl,hx,ix⟩:=i1.tup
  have ic:=cut_of ix lo hi
  by_cases hw:HT.sIx xs.length 0 lo=0∧HT.sIx xs.length xs.length hi=xs.length
  ·cases rx
   obtain⟨its,r,ht,hz⟩:=I.tuple hx
   refine⟨"tuple",_,PyProof.Rows.slot_tuple_getitem.lookup,ht.typeIs,?_⟩
   have hlen:its.toArray.size=xs.length:=by rw[List.size_toArray]; exact r.length.symm
   refine getItem_tuple_whole ht hs pl pu (by rw[hlen]; exact hw) ?_
   refine⟨.ref p,H,I,rfl,q.here R0 (mkTup hx ?_)⟩
   have e1:cutV xs lo hi=xs:=by
    unfold cutV
    rw[hw.1,hw.2]
    simp
   rw[e1]at ic
   exact ic
  ·refine sl_tup pins s σ H _ v vl vu lo hi sl Q I rx hs pl pu ⟨p,xs,rfl,hx,hw,fun p' hp=>?_⟩
   have sm:=same_new (o:=.tup (cutV xs lo hi)) hp
   exact q _ m _ (Sub.refl m) (Tr.of_same sm) (R0.same sm) (mkTup (SqT.of upd_same) (isDs_mono (Sub.refl m) (Tr.of_same sm) _ _ ic))
 ·split at e
  ·cases e
  ·rename_i hz
   cases e
   have l2:=lim_eq
   exact sl_text pins s σ H _ v vl vu lo hi sl Q I rx hs pl pu ⟨_,i1.str,by omega,q.here R0 (mkStr _)⟩
 ·obtain⟨ds,e1,e2⟩:=mapD e
  cases e2
  obtain⟨p,xs,_,rfl,hq,ix⟩:=R0.seq e1 i1
  refine sl_list pins s σ H _ v vl vu lo hi sl Q I rx hs pl pu ⟨p,xs,rfl,hq,fun l hl=>?_⟩
  exact q _ (m++[l]) _ (Sub.app m [l]) (Tr.of_same (same_new hl)) (R0.new hl (cut_of ix lo hi)) R0.newLoc
theorem call_lenD:CallR X (.builtin "len") (rC X.K M.bLen):=by
 intro pins s σ H xs us Q I r h
 refine h.el fun m st ds d st' R0 ix e q=>?_
 unfold M.bLen at e
 split at e
 ·cases e
  obtain⟨x,rfl,i⟩:=ix.one
  obtain⟨p,ys,rfl,hq,iy⟩:=i.tup
  refine call_len_seq pins s σ H _ us Q I r ⟨p,ys,rfl,.inr hq,?_⟩
  rw[← iy.length]
  exact q.here R0 (mkInt _)
 ·split at e
  ·cases e
  ·cases e
   obtain⟨x,rfl,i⟩:=ix.one
   have l3:=lim_eq
   cases i.str
   exact call_len_str pins s σ H _ us Q I r ⟨_,rfl,by omega,q.here R0 (mkInt _)⟩
 ·obtain⟨ds',e1,e2⟩:=mapD e
  cases e2
  obtain⟨x,rfl,i⟩:=ix.one
  obtain⟨p,ys,_,rfl,hq,iy⟩:=R0.seq e1 i
  refine call_len_seq pins s σ H _ us Q I r ⟨p,ys,rfl,.inl hq,?_⟩
  rw[← iy.length]
  exact q.here R0 (mkInt _)
 ·cases e
theorem call_minD(hc:X.calm=true):CallR X (.builtin "min") (rC X.K M.bMin):=by
 intro pins s σ H xs us Q I r h
 refine h.el fun m st ds d st' R0 ix e q=>?_
 unfold M.bMin at e
 split at e
 ·cases e
  obtain⟨x,y,rfl,i,j⟩:=ix.two
  cases i.int; cases j.int
  exact call_min2 hc pins s σ H _ us Q I r ⟨_,_,rfl,q.here R0 (mkInt _)⟩
 ·cases e
theorem call_maxD(hc:X.calm=true):CallR X (.builtin "max") (rC X.K M.bMax):=by
 intro pins s σ H xs us Q I r h
 refine h.el fun m st ds d st' R0 ix e q=>?_
 unfold M.bMax at e
 split at e
 ·cases e
  obtain⟨x,y,rfl,i,j⟩:=ix.two
  cases i.int; cases j.int
  exact call_max2 hc pins s σ H _ us Q I r ⟨_,_,rfl,q.here R0 (mkInt _)⟩
 ·cases e
theorem call_tupleD:CallR X (.type "tuple") (rC X.K M.bTuple):=by
 intro pins s σ H xs us Q I r h
 refine h.el fun m st ds d st' R0 ix e q=>?_
 unfold M.bTuple at e
 split at e
 ·cases e
  obtain⟨x,rfl,i⟩:=ix.one
  obtain⟨p,ys,rfl,hq,iy⟩:=i.tup
  exact call_tuple_of pins s σ H _ us Q I r ⟨p,ys,rfl,.inr ⟨hq,q.here R0 (mkTup hq iy)⟩⟩
 ·obtain⟨ds',e1,e2⟩:=mapD e
  cases e2
  obtain⟨x,rfl,i⟩:=ix.one
  obtain⟨p,ys,_,rfl,hq,iy⟩:=R0.seq e1 i
  refine call_tuple_of pins s σ H _ us Q I r ⟨p,ys,rfl,.inl ⟨hq,fun l hl=>?_⟩⟩
  have sm:=same_new (o:=.tup ys) hl
  exact q _ m _ (Sub.refl m) (Tr.of_same sm) (R0.same sm) (mkTup (SqT.of upd_same) (isDs_mono (Sub.refl m) (Tr.of_same sm) _ _ iy))
 ·cases e
theorem call_listD:CallR X (.type "list") (rC X.K M.bList):=by
 intro pins s σ H xs us Q I r h
 refine h.el fun m st ds d st' R0 ix e q=>?_
 unfold M.bList at e
 split at e
 ·cases e
  obtain⟨x,rfl,i⟩:=ix.one
  obtain⟨p,ys,rfl,hq,iy⟩:=i.tup
  refine call_list_of pins s σ H _ us Q I r ⟨p,ys,rfl,.inr hq,fun l hl=>?_⟩
  exact q _ (m++[l]) _ (Sub.app m [l]) (Tr.of_same (same_new hl)) (R0.new hl iy) R0.newLoc
 ·obtain⟨ds',e1,e2⟩:=mapD e
  cases e2
  obtain⟨x,rfl,i⟩:=ix.one
  obtain⟨p,ys,_,rfl,hq,iy⟩:=R0.seq e1 i
  refine call_list_of pins s σ H _ us Q I r ⟨p,ys,rfl,.inl hq,fun l hl=>?_⟩
  exact q _ (m++[l]) _ (Sub.app m [l]) (Tr.of_same (same_new hl)) (R0.new hl iy) R0.newLoc
 ·cases e
theorem bools_of{K:PySem.W.Frag}{m:List Addr}{H:Hp}:∀ {ds:List D}{xs:List V}{its:List Value}{bs:List Bool},M.asBools ds=some bs→IsDs K m H ds xs→Vals xs its→LSm.BoolsAre its bs
 |[],_,_,_,e,ix,r=>by
  rw[ix.nil]at r
  cases r
  cases e
  exact .nil
 |d::ds,_,_,_,e,ix,r=>by
  obtain⟨x,xr,rfl,q,t⟩:=ix.cons
  cases d with
  |bl b=>
   simp only[M.asBools]at e
   obtain⟨bs',e1,e2⟩:=mapD e
   subst e2
   cases q.bl
   cases r with
   |cons r1 r2=>
    cases r1
    exact .cons b (bools_of e1 t r2)
  |_=>simp[M.asBools]at e
theorem ints_of{K:PySem.W.Frag}{m:List Addr}{H:Hp}:∀ {ds:List D}{xs:List V}{ns:List Int},M.asInts ds=some ns→IsDs K m H ds xs→xs=ns.map V.int∧ds=ns.map D.int
 |[],_,_,e,ix=>by
  cases e
  exact⟨ix.nil,rfl⟩
 |d::ds,_,_,e,ix=>by
  obtain⟨x,xr,rfl,q,t⟩:=ix.cons
  cases d with
  |int b=>
   simp only[M.asInts]at e
   obtain⟨bs',e1,e2⟩:=mapD e
   subst e2
   cases q.int
   obtain⟨h1,h2⟩:=ints_of e1 t
   rw[h1,h2]
   exact⟨rfl,rfl⟩
  |_=>simp[M.asInts]at e
theorem call_allD(hc:X.calm=true):CallR X (.builtin "all") (rC X.K M.bAll):=by
 intro pins s σ H xs us Q I r h
 refine h.el fun m st ds d st' R0 ix e q=>?_
 unfold M.bAll at e
 split at e
 ·obtain⟨ds',e1,e⟩:=bindO e
  obtain⟨bs,e2,e3⟩:=mapD e
  cases e3
  obtain⟨x,rfl,i⟩:=ix.one
  obtain⟨p,ys,_,rfl,hq,iy⟩:=R0.seq e1 i
  obtain⟨u,rfl,ru⟩:=vals1 r
  cases ru
  obtain⟨its,rv,pl,_⟩:=I.list hq
  have hb:=bools_of e2 iy rv
  have hl:=pl.isList
  have hlt:p<s.heap.objs.size:=by obtain⟨_,e,_⟩:=id hl; exact Heap.lt_size e
  refine call_all_walk (wpAny_pyIter_list hl ?_)
  refine⟨s.heap.objs.size,[s.heap.objs.size,p],[s.heap.objs.size],its.toArray.size,_,_,fun i=>(bs[i]?).getD true,rfl,Walks.list (A:=X.A.in1) (I.ok.hd hc) _ p (Nat.ne_of_lt hlt) its.toArray,
   ⟨⟨_,Heap.get?_push_size _ rfl,rfl,rfl⟩,hl.push _⟩,fun i v s' Q' E' hP hQ=>?_,fun h' tk hk=>?_⟩
  ·obtain⟨b,e,rfl⟩:=hb.get i v (by simpa using hP)
   simp only[e,Option.getD_some]at hQ
   exact wpAny_truthy_bool hQ
  ·have e:((List.range its.toArray.size).all fun i=>(bs[i]?).getD true)=bs.all id:=by
    rw[List.size_toArray,hb.length]; exact LSm.range_all bs
   rw[e]
   exact⟨.bl _,H,I.kept (LSm.kept_iter hk),rfl,q.here R0 (mkBl _)⟩
 ·cases e
theorem insInt_perm(x:Int):∀ l:List Int,(M.insInt x l).Perm (x::l)
 |[]=>.refl _
 |y::r=>by
  unfold M.insInt
  split
  ·exact .refl _
  ·exact((insInt_perm x r).cons y).trans (.swap x y r)
theorem sortInt_perm:∀ l:List Int,(M.sortInt l).Perm l
 |[]=>.refl _
 |x::r=>by
  unfold M.sortInt
  exact(insInt_perm x _).trans ((sortInt_perm r).cons x)
theorem insInt_sorted(x:Int):∀ l:List Int,l.Pairwise (· ≤ ·)→(M.insInt x l).Pairwise (· ≤ ·)
 |[],_=>by unfold M.insInt; simp
 |y::r,h=>by
  unfold M.insInt
  split
  ·rename_i hx
   refine List.Pairwise.cons (fun z hz=>?_) h
   rcases List.mem_cons.mp hz with e|e
   ·rw[e]; exact hx
   ·exact Int.le_trans hx ((List.pairwise_cons.mp h).1 z e)
  ·rename_i hx
   have h':=List.pairwise_cons.mp h
   refine List.Pairwise.cons (fun z hz=>?_) (insInt_sorted x r h'.2)
   rcases List.mem_cons.mp ((insInt_perm x r).mem_iff.mp hz) with e|e
   ·rw[e]; omega
   ·exact h'.1 z e
theorem sortInt_sorted:∀ l:List Int,(M.sortInt l).Pairwise (· ≤ ·)
 |[]=>by unfold M.sortInt; simp
 |x::r=>by
  unfold M.sortInt
  exact insInt_sorted x _ (sortInt_sorted r)
theorem isDs_ints{K:PySem.W.Frag}{m:List Addr}{H:Hp}:∀ (ns:List Int),IsDs K m H (ns.map D.int) (ns.map V.int)
 |[]=>mkNil
 |n::r=>mkCons (mkInt n) (isDs_ints r)
theorem call_sortedD:CallR X (.builtin "sorted") (rC X.K M.bSorted):=by
 intro pins s σ H xs us Q I r h
 refine h.el fun m st ds d st' R0 ix e q=>?_
 unfold M.bSorted at e
 split at e
 ·obtain⟨ds',e1,e⟩:=bindO e
  obtain⟨ns,e2,e3⟩:=mapD e
  cases e3
  split at e2
  ·cases e2
  ·rename_i h64
   obtain⟨x,rfl,i⟩:=ix.one
   obtain⟨p,ys,_,rfl,hq,iy⟩:=R0.seq e1 i
   obtain⟨u,rfl,ru⟩:=vals1 r
   cases ru
   obtain⟨its,rv,pl,_⟩:=I.list hq
   obtain⟨e4,e5⟩:=ints_of e2 iy
   have l1:=iy.length
   have l2:=rv.length
   subst e4
   have hI:IntsAre its ns:=intsAre_of rv
   refine sorted_ints pl.isList hI (by omega) fun out ns' a1 a2 a3=>?_
   have e6:ns'=M.sortInt ns:=PySem.W.ksm_same (a2.trans (sortInt_perm ns).symm) a3 (sortInt_sorted ns)
   subst e6
   obtain⟨ep,he⟩:=sortedAll_at s.heap its out
   have fr:H (s.heap.objs.size+1)=none:=I.hok.fresh (Nat.le_succ _)
   have l3:=(sortInt_perm ns).length_eq
   have l4:=lim_eq
   rw[List.length_map]at l1
   refine⟨.ref (s.heap.objs.size+1),upd H (s.heap.objs.size+1) (.lst ((M.sortInt ns).map V.int)),I.laid (t':=s.toks) (fun b o e=>sortedAll_old e) (Nat.le_succ _) ?_,rfl,?_⟩
   ·refine⟨?_,out.toList,ep,vals_ints a1,?_⟩
    ·rw[List.length_map,l3,l4]
     unfold M.lim
     omega
    ·rw[he]
   ·exact q _ (m++[_]) _ (Sub.app m _) (Tr.of_same (same_new fr)) (R0.new fr (isDs_ints _)) R0.newLoc
 ·cases e
theorem kit_one(K:PySem.W.Frag)(n t:M.Ty)(ht:t≠.non):PySem.W.kitOne K (.type n.name) (.type t.name)=some (M.tyIs t n):=by
 cases n<;>cases t<;>first
  |exact absurd rfl ht
  |rfl
  |decide +kernel
theorem kit_any(K:PySem.W.Frag)(n:M.Ty):∀ ts:List M.Ty,(∀ t∈ts,t≠.non)→PySem.W.kitAny K (.type n.name) (ts.map fun t=>Value.type t.name)=some (ts.any fun t=>M.tyIs t n)
 |[],_=>rfl
 |t::ts,h=>by
  rw[List.map_cons,List.any_cons]
  unfold PySem.W.kitAny
  rw[kit_one K n t (h t List.mem_cons_self)]
  cases M.tyIs t n with
  |true=>rfl
  |false=>exact kit_any K n ts fun t' ht=>h t' (List.mem_cons_of_mem _ ht)
theorem kit_of{pins:List (Addr×Obj)}{σ:L2.St}{H:Hp}{s:Shared}{m:List Addr}{st:Store}{d:D}{x:V}{u:Value}{n:M.Ty}(I:Inv X pins σ H s)(R0:Rel X.K m st H)(h:IsD X.K m H d x)(r:RelV x u)(e:M.tyName st d=some n):
  ∃ Hf:Heap→Prop,PySem.W.KitX X.K u (.type n.name) Hf∧Hf s.heap∧u≠.builtin "__main__.__loader__#opaque":=by
 cases d with
 |non=>cases h.non; cases r; cases e; exact⟨_,PySem.W.kitx_none,True.intro,fun z=>nomatch z⟩
 |bl b=>cases h.bl; cases r; cases e; exact⟨_,PySem.W.kitx_bool,True.intro,fun z=>nomatch z⟩
 |int b=>cases h.int; obtain⟨t,rfl⟩:=r; cases e; exact⟨_,PySem.W.kitx_int,True.intro,fun z=>nomatch z⟩
 |str b=>cases h.str; obtain⟨t,rfl⟩:=r; cases e; exact⟨_,PySem.W.kitx_str,True.intro,fun z=>nomatch z⟩
 |tup ds=>
  obtain⟨a,xs,its,rfl,hq,ix,r1,p1⟩:=isD_tuple I h
  cases r
  cases e
  obtain⟨o,h1,h2,_⟩:=p1
  exact⟨_,PySem.W.kitx_tuple,⟨o,h1,h2⟩,fun z=>nomatch z⟩
 |loc l=>
  simp only[M.tyName]at e
  obtain⟨ds,e1,e2⟩:=mapD e
  subst e2
  obtain⟨a,xs,_,rfl,hq,ix⟩:=R0.seq e1 h
  cases r
  obtain⟨its,rv,pl,_⟩:=I.list hq
  obtain⟨o,h1,h2,_⟩:=pl.isList
  exact⟨_,PySem.W.kitx_list,⟨o,h1,h2⟩,fun z=>nomatch z⟩
 |lst l=>
  simp only[M.tyName]at e
  obtain⟨ds,e1,e2⟩:=mapD e
  subst e2
  obtain⟨a,xs,_,rfl,hq,ix⟩:=R0.seq e1 h
  cases r
  obtain⟨its,rv,pl,_⟩:=I.list hq
  obtain⟨o,h1,h2,_⟩:=pl.isList
  exact⟨_,PySem.W.kitx_list,⟨o,h1,h2⟩,fun z=>nomatch z⟩
def rIsi1(K:PySem.W.Frag)(t:M.Ty):List V→Hp→VK→Prop:=fun xs H Q=>∃ m st d n x,xs=[x,.ty t.name]∧Rel K m st H∧IsD K m H d x∧M.tyName st d=some n∧Q (.bl (M.tyIs t n)) H
theorem call_isi1(t:M.Ty)(ht:t≠.non):CallR X (.builtin "isinstance") (rIsi1 X.K t):=by
 intro pins s σ H xs us Q I r h
 obtain⟨m,st,d,n,x,rfl,R0,i,e,q⟩:=h
 obtain⟨u,w,rfl,ru,rw'⟩:=vals2 r
 cases rw'
 obtain⟨Hf,Z,p,hx⟩:=kit_of I R0 i ru e
 exact PySem.W.kia_one Z I.kIn p (kit_one X.K n t ht) hx fun tk=>⟨.bl _,H,I.tok tk,rfl,q⟩
def rIsiN(K:PySem.W.Frag)(ts:List M.Ty):List V→Hp→VK→Prop:=fun xs H Q=>∃ m st d n x p,xs=[x,.ref p]∧H p=some (.tup (ts.map fun t=>V.ty t.name))∧Rel K m st H∧IsD K m H d x∧M.tyName st d=some n∧Q (.bl (ts.any fun t=>M.tyIs t n)) H
theorem vals_tys:∀ {ts:List M.Ty}{us:List Value},Vals (ts.map fun t=>V.ty t.name) us→us=ts.map fun t=>Value.type t.name
 |[],_,.nil=>rfl
 |t::ts,_,.cons r q=>by
  cases r
  rw[vals_tys q]
  rfl
theorem call_isiN(ts:List M.Ty)(ht:∀ t∈ts,t≠.non):CallR X (.builtin "isinstance") (rIsiN X.K ts):=by
 intro pins s σ H xs us Q I r h
 obtain⟨m,st,d,n,x,p,rfl,hp,R0,i,e,q⟩:=h
 obtain⟨u,w,rfl,ru,rw'⟩:=vals2 r
 cases rw'
 obtain⟨Hf,Z,pz,hx⟩:=kit_of I R0 i ru e
 obtain⟨_,its,rv,⟨cls,dd,data,sl⟩,h1,h2,nn,h3⟩:=I.hok p _ hp
 have e1:=vals_tys rv
 subst e1
 simp only at h2 h3
 subst h2 h3
 exact PySem.W.kia_tup Z I.kIn pz h1 (kit_any X.K n ts ht) hx fun tk=>⟨.bl _,H,I.tok tk,rfl,q⟩
end
end MS
end
section
namespace MS
open PySem PySem.Spec PyProof.Rows L2
noncomputable def closL(cells:List (Str×Addr)):List (Str×NameKind)→List (Str×Addr)→List (Str×Addr)
 |[],acc=>acc
 |(n,k)::r,acc=>closL cells r (if k==.free then(match cells.lookup n with|some a=>(n,a)::acc|none=>acc) else acc)
theorem clos_loop{env:Env}:∀ (names:List (Str×NameKind)) (acc:List (Str×Addr)),(∀ x∈names,x.2=.free→∃ c,env.cells.lookup x.1=some c)→
  (forIn names acc fun x r=>match x,r with
   |(name,kind),cs=>if (kind==.free)=true then do let a ← cellOf env name; pure (ForInStep.yield ((name,a)::cs)) else pure (ForInStep.yield cs):Sem (List (Str×Addr)))=pure (closL env.cells names acc):=by
 intro names
 induction names with
 |nil=>intro acc _; rfl
 |cons x r ih=>
  intro acc h
  obtain⟨n,k⟩:=x
  rw[List.forIn_cons]
  have hr:=fun acc=>ih acc fun y hy=>h y (List.mem_cons_of_mem _ hy)
  by_cases hk:k=.free
  ·subst hk
   obtain⟨c,hc⟩:=h (n,.free) List.mem_cons_self rfl
   simp only[beq_self_eq_true,if_true,cellOf,hc]
   show(do let r_1 ← (do let a ← (pure c:Sem Addr); pure (ForInStep.yield ((n,a)::acc))); match r_1 with|.done b=>pure b|.yield b=>_)=_
   simp only[pure_bind]
   refine(hr ((n,c)::acc)).trans ?_
   have hc':env.cells.lookup n=some c:=hc
   simp[closL,hc']
  ·have hb:(k==NameKind.free)=false:=by simpa using hk
   simp only[hb,Bool.false_eq_true,if_false,pure_bind]
   refine(hr acc).trans ?_
   simp[closL,hb]
theorem closureFor_of{scope:Scope}{env:Env}(h:∀ x∈scope.names,x.2=.free→∃ c,env.cells.lookup x.1=some c):closureFor scope env=pure (closL env.cells scope.names []):=by
 unfold closureFor
 have:=clos_loop (env:=env) scope.names [] h
 simp only[this]
 rfl
theorem closL_in{cells:List (Str×Addr)}{x:Str}{c:Addr}(hc:cells.lookup x=some c):∀ (names:List (Str×NameKind)) (acc:List (Str×Addr)),((x,NameKind.free)∈names∨acc.lookup x=some c)→(closL cells names acc).lookup x=some c
 |[],acc,h=>by
  rcases h with h|h
  ·cases h
  ·exact h
 |(n,k)::r,acc,h=>by
  unfold closL
  refine closL_in hc r _ ?_
  by_cases hk:k=.free
  ·subst hk
   simp only[beq_self_eq_true,if_true]
   by_cases hn:n=x
   ·subst hn
    rw[hc]
    exact .inr (by simp)
   ·rcases h with h|h
    ·rcases List.mem_cons.mp h with e|e
     ·cases e; exact absurd rfl hn
     ·exact .inl e
    ·refine .inr ?_
     split
     ·have:(x==n)=false:=by simpa using Ne.symm hn
      rw[List.lookup_cons,this]; exact h
     ·exact h
  ·have hb:(k==NameKind.free)=false:=by simpa using hk
   rw[hb,if_neg Bool.false_ne_true]
   rcases h with h|h
   ·rcases List.mem_cons.mp h with e|e
    ·cases e; exact absurd rfl hk
    ·exact .inl e
   ·exact .inr h
theorem closL_out{cells:List (Str×Addr)}:∀ (names:List (Str×NameKind)) (acc:List (Str×Addr)),(∀ x c,acc.lookup x=some c→cells.lookup x=some c)→∀ x c,(closL cells names acc).lookup x=some c→cells.lookup x=some c
 |[],acc,h,x,c,e=>h x c e
 |(n,k)::r,acc,h,x,c,e=>by
  unfold closL at e
  refine closL_out r _ ?_ x c e
  intro y d q
  by_cases hk:(k==NameKind.free)=true
  ·rw[if_pos hk]at q
   split at q
   ·rename_i a ha
    by_cases hy:(y==n)=true
    ·rw[List.lookup_cons,hy]at q
     rw[eq_of_beq hy,ha]; exact q
    ·have:(y==n)=false:=by simpa using hy
     rw[List.lookup_cons,this]at q
     exact h y d q
   ·exact h y d q
  ·rw[if_neg hk]at q
   exact h y d q
theorem relabel_lookup(env:Env):∀ (names:List (Str×NameKind)) (x:Str),(names.map fun(n,k)=>if (k==NameKind.free&&env.scope.kind==.function&&env.kindOf n==some .cell) then(n,NameKind.cell) else(n,k)).lookup x =
  (names.lookup x).map fun k=>if (k==NameKind.free&&env.scope.kind==.function&&env.kindOf x==some .cell) then NameKind.cell else k
 |[],x=>rfl
 |(n,k)::r,x=>by
  have ih:=relabel_lookup env r x
  rw[List.map_cons]
  by_cases hx:(x==n)=true
  ·have e:=eq_of_beq hx
   subst e
   dsimp only
   split
   ·rename_i hc
    rw[List.lookup_cons,hx,List.lookup_cons,hx]
    dsimp only[Option.map_some]
    rw[if_pos hc]
   ·rename_i hc
    rw[List.lookup_cons,hx,List.lookup_cons,hx]
    dsimp only[Option.map_some]
    rw[if_neg hc]
  ·have hx':(x==n)=false:=by simpa using hx
   dsimp only
   split
   ·rw[List.lookup_cons,hx',List.lookup_cons,hx']; exact ih
   ·rw[List.lookup_cons,hx',List.lookup_cons,hx']; exact ih
section
variable {prog:Program}{w:World}{A:Around}{R:Result→Shared→Prop}{s:Shared}
abbrev NoX:Value→Shared→Prop:=fun _ _=>False
theorem compLoop_any{elt target iter:Expr}{ifs:List Expr}{scope:Scope}{pos:Pos}{it acc:Value}{env:Env}(I:Nat→Shared→Prop)
  (turn:∀ n s,I n s→wpAny (model prog w) A (pyNext it) (fun r s₁=>match r with
   |none=>R (.ok .next) s₁
   |some v=>wpAny (model prog w) A (letOwnedTupleGo target it v) (fun _ s₀=>wpAny (model prog w) A (assign target env v) (fun _ s₂=>
     wpAny (model prog w) A (forIn ifs true fun c r=>if r=true then do let ok ← isTrue c env (eval c env); pure (ForInStep.yield ok) else pure (ForInStep.yield r)) (fun ok s₃=>
      if ok=true then wpAny (model prog w) A (eval elt env) (fun x s₄=>wpAny (model prog w) A (call (.builtin "list.append") [acc,x]) (fun _ s₅=>∃ m,m<n∧I m s₅) NoX s₄) NoX s₃
      else ∃ m,m<n∧I m s₃) NoX s₂) NoX s₀) NoX s₁) NoX s)
  (n:Nat) (h:I n s):codeAny (model prog w) A (.compLoop (.ListComp elt [⟨target,iter,ifs,0⟩] scope pos) 0 it acc env) R s:=by
 refine codeAny_loop rfl I (fun n s hI=>?_) n h
 show wpAny _ A ((compTurn (.ListComp elt [⟨target,iter,ifs,0⟩] scope pos) 0 it acc env).onRaise (fun x=>do noteFrame x env; theTreesLotGoes x)) _ _ s
 refine wpAny_noted ?_
 rw[compTurn_list]
 refine wpAny_bind (wpAny_standAt (wpAny_bind (wpAny_mono (turn n s hI) (fun r s₁ h₁=>?_) fun _ _ z=>z.elim)))
 cases r with
 |none=>exact wpAny_pure h₁
 |some v=>
  refine wpAny_bind (wpAny_mono h₁ (fun _ s₀ h₀=>?_) fun _ _ z=>z.elim)
  refine wpAny_bind (wpAny_mono h₀ (fun _ s₂ h₂=>wpAny_bind (wpAny_mono h₂ (fun ok s₃ h₃=>?_) fun _ _ z=>z.elim)) fun _ _ z=>z.elim)
  cases ok with
  |false=>exact wpAny_pure ⟨rfl,h₃⟩
  |true=>
   exact wpAny_bind (wpAny_bind (wpAny_mono h₃ (fun x s₄ h₄=>wpAny_bind (wpAny_mono h₄ (fun _ s₅ h₅=>wpAny_pure (wpAny_pure ⟨rfl,h₅⟩)) fun _ _ z=>z.elim)) fun _ _ z=>z.elim))
end
theorem HOk.track{P:Program}{w:World}{H:Hp}{h:Heap}{a:Addr}{o:HO}(x:HOk P w H h)(hn:H a=none)(new:ObjOk P w (upd H a o) h a o):HOk P w (upd H a o) h:=fun b u e=>by
 by_cases hb:b=a
 ·subst hb; rw[upd_same]at e; cases e; exact new
 ·rw[upd_ne hb]at e
  exact(x b u e).stay (fun c v _ q=>q) (fun c q=>by rw[upd_ne (ne_of_none q hn)]; exact q) fun c xs q=>by rw[upd_ne (ne_of_none q hn)]; exact q
theorem Inv.track{X:Cx}{pins:List (Addr×Obj)}{σ:L2.St}{H:Hp}{s:Shared}{a:Addr}{o:HO}(I:Inv X pins σ H s)(hf:FpOk X pins H a)(new:ObjOk X.prog X.w (upd H a o) s.heap a o):Inv X pins σ (upd H a o) s:=by
 obtain⟨f0,f1,f2,f3,f4,f5⟩:=hf
 refine I.step (h':=s.heap) (g':=s.gens) (t':=s.toks) (d':=s.drawn) (ch:=[a]) (fun b hb=>?_) (fun b o _ _ _ e _=>e) (fun b o _ _ _ e _=>⟨o.slots,e⟩) (fun b o hb e n=>?_) (fun b o _ e=>⟨o,e⟩)
  (fun b xs e=>by rw[upd_ne (ne_of_none e f0)]; exact e) (fun b o u e=>by rw[upd_ne (ne_of_none e f0)]; exact e) (fun b ps e=>⟨#[],by rw[upd_ne (ne_of_none e f0),e]; simp⟩) (fun m h=>h) (HOk.track I.hok f0 new) I.bare
 ·have e:b=a:=by simpa using hb
  subst e
  exact⟨f3,f1,f4,f5⟩
 ·rw[upd_ne (by simpa using hb)]; exact n
noncomputable def cxComp(X:Cx)(N:List Str)(scope:Scope)(C:Addr)(fp:List Addr)(s:Shared)(H:Hp):Cx:=
 { X with N:=N,s₀:=s,H₀:=H,env:=compEnvC scope (closL X.env.cells scope.names []) C X.env,outer:=X.stack,ex:=fp,fn:=fun _=>false,pn:=[],xe:=fun _ _=>False }
noncomputable def innerS(src:List (Option Nat))(σ:L2.St):L2.St:=src.map fun o=>o.bind fun i=>(σ[i]?).bind id
structure CompScope (X:Cx) (N:List Str) (src:List (Option Nat)) (scope:Scope):Prop where
 kind:scope.kind=.function
 cell:∀ y∈scope.names,y.2≠.cell
 free:∀ y∈scope.names,y.2=.free→X.env.kindOf y.1=some .cell∨X.env.kindOf y.1=some .free
 loc:∀ y∈scope.names,y.2=.local→scope.names.lookup y.1=some .local
 len:src.length=N.length
 src:∀ (j i:Nat),src[j]?=some (some i)→∃ x,N[j]?=some x∧X.N[i]?=some x∧scope.names.lookup x=some .free
section
variable {X:Cx}{pins:List (Addr×Obj)}{σ:L2.St}{H:Hp}{s:Shared}
theorem mem_lookup{names:List (Str×NameKind)}{x:Str}{k:NameKind}(h:names.lookup x=some k):(x,k)∈names:=PySem.mem_of_lookup h
theorem comp_clos{N:List Str}{src:List (Option Nat)}{scope:Scope}(S:CompScope X N src scope)(I:Inv X pins σ H s):closureFor scope X.env=pure (closL X.env.cells scope.names []):=
 closureFor_of fun x hx hk=>I.ok.has x.1 (S.free x hx hk)
theorem comp_ok{N:List Str}{src:List (Option Nat)}{scope:Scope}{C:Addr}{fp:List Addr}(S:CompScope X N src scope)(I:Inv X pins σ H s)(hC:s.heap.objs.size≤C)(hfp:∀ b∈fp,FpOk X pins H b)(hlt:∀ b∈fp,b<s.heap.objs.size):(cxComp X N scope C fp s H).Ok where
 mod:=I.ok.mod
 kind:=S.kind
 glob:=I.ok.glob
 blt:=I.ok.blt
 above:=hC
 inj:=fun x y c h1 h2=>I.ok.inj x y c (closL_out _ [] (fun _ _ z=>nomatch z) x c h1) (closL_out _ [] (fun _ _ z=>nomatch z) y c h2)
 has:=fun x h=>by
  have e:(cxComp X N scope C fp s H).env.kindOf x=(scope.names.lookup x).map fun k=>if (k==NameKind.free&&X.env.scope.kind==.function&&X.env.kindOf x==some .cell) then NameKind.cell else k:=relabel_lookup X.env scope.names x
  rw[e]at h
  cases q:scope.names.lookup x with
  |none=>rw[q]at h; rcases h with h|h<;>cases h
  |some k=>
   have hk:k=.free:=by
    rw[q]at h
    simp only[Option.map_some,Option.some.injEq]at h
    by_cases hc:(k==NameKind.free&&X.env.scope.kind==.function&&X.env.kindOf x==some .cell)=true
    ·simp only[Bool.and_eq_true]at hc
     exact eq_of_beq hc.1.1
    ·rw[if_neg hc]at h
     rcases h with h|h
     ·subst h; exact absurd rfl (S.cell _ (mem_lookup q))
     ·exact h
   subst hk
   have hm:=mem_lookup q
   obtain⟨c,hc⟩:=I.ok.has x (S.free _ hm rfl)
   exact⟨c,closL_in hc _ _ (.inl hm)⟩
 cab:=fun x c h=>by cases h
 hd:=I.ok.hd
 frames:=I.ok.frames
 stk:=.inl rfl
 exf:=fun b hb=>⟨Nat.ne_of_lt (Nat.lt_of_lt_of_le (hlt b hb) hC),fun x c e=>(hfp b hb).2.2.2.2.1 x c (closL_out _ [] (fun _ _ z=>nomatch z) x c e)⟩
 bs:=I.bs
 bsz:=Nat.le_trans I.ok.bsz I.sz
 noex:=fun b o e hb=>by
  rcases (hfp b hb).2.2.2.1 with z|z
  ·exact I.ok.noex b o e z
  ·exact absurd (Nat.lt_of_lt_of_le (Heap.lt_size e) (Nat.le_trans I.ok.bsz z)) (Nat.lt_irrefl _)
 exfs:=fun b hb hf=>by
  have f:=hfp b hb
  rcases List.mem_cons.mp (I.stkSub b hf) with z|z
  ·exact f.2.1 z
  ·exact f.2.2.1 z
 funs:=I.stack
 frf:=I.stkFree
theorem comp_start{N:List Str}{src:List (Option Nat)}{scope:Scope}{C:Addr}{fp:List Addr}{h':Heap}{tk:Nat}{m':Str→Option Value}(S:CompScope X N src scope)(I:Inv X pins σ H s)(hC:s.heap.objs.size≤C)(hfp:∀ b∈fp,FpOk X pins H b)(hlt:∀ b∈fp,b<s.heap.objs.size)
  (kp:∀ b o,s.heap.get? b=some o→h'.get? b=some o) (ns:h'.Ns C m'):Inv (cxComp X N scope C fp s H) [] (innerS src σ) H { s with heap:=h',toks:=tk }:=by
 have O:=comp_ok S I hC hfp hlt
 refine⟨O,rfl,I.bare,Un.kept kp,⟨m',ns,fun j x v hN hσ hv=>?_⟩,fun x c e=>?_,I.hok.fresh hC,fun x c e=>?_,fun p hp=>absurd (show p∈([]:List (Addr×Obj)) from hp) (by simp),I.hok.kept kp,?_⟩
 ·unfold innerS at hσ
  rw[List.getElem?_map]at hσ
  cases q:src[j]? with
  |none=>rw[q]at hσ; cases hσ
  |some o=>
   rw[q]at hσ
   cases o with
   |none=>cases hσ
   |some i=>
    obtain⟨x',e1,e2,e3⟩:=S.src j i q
    have hN:N[j]?=some x:=hN
    rw[hN]at e1
    cases e1
    have hi:σ[i]?=some (some v):=by
     cases z:σ[i]? with
     |none=>simp[z]at hσ
     |some w=>
      cases w with
      |none=>simp[z]at hσ
      |some w=>simpa[z] using hσ
    obtain⟨m0,hn0,hl0⟩:=I.loc
    have hk:=S.free _ (mem_lookup e3) rfl
    have vis:Vis X.env.scope x:=by
     rcases hk with z|z
     ·exact .inr (.inl z)
     ·exact .inr (.inr z)
    obtain⟨u,ru,lk⟩:=hl0 i x v e2 hi vis
    refine⟨u,ru,?_⟩
    rcases lk with⟨z,_⟩|⟨_,c,hc,hcell⟩
    ·rcases hk with y|y
     ·rw[y]at z; cases z
     ·rw[y]at z; cases z
    ·refine .inr ⟨?_,c,closL_in hc _ _ (.inl (mem_lookup e3)),?_⟩
     ·have e:(cxComp X N scope C fp s H).env.kindOf x=(scope.names.lookup x).map fun k=>if (k==NameKind.free&&X.env.scope.kind==.function&&X.env.kindOf x==some .cell) then NameKind.cell else k:=relabel_lookup X.env scope.names x
      rw[e,e3]
      simp only[Option.map_some,Option.some.injEq]
      by_cases hc:(NameKind.free==NameKind.free&&X.env.scope.kind==.function&&X.env.kindOf x==some .cell)=true
      ·rw[if_pos hc]; exact .inl rfl
      ·rw[if_neg hc]; exact .inr rfl
     ·obtain⟨o,ho,hd⟩:=hcell
      exact⟨o,kp c o ho,hd⟩
 ·have e':=closL_out _ [] (fun _ _ z=>nomatch z) x c e
  obtain⟨v,o,ho,hd⟩:=I.cell x c e'
  exact⟨v,o,kp c o ho,hd⟩
 ·exact I.freeC x c (closL_out _ [] (fun _ _ z=>nomatch z) x c e)
 ·unfold innerS
  rw[List.length_map]
  exact S.len
end
def TestR(X:Cx)(ifs:List Expr)(tt:TT):Prop:=∀ (pins:List (Addr×Obj)) (s:Shared) (σ:L2.St) (H:Hp) (Q:Bool→Hp→Prop),Inv X pins σ H s→tt σ H Q→
 wpAny (model X.prog X.w) X.A (forIn ifs true fun c r=>if r=true then do let ok ← isTrue c X.env (eval c X.env); pure (ForInStep.yield ok) else pure (ForInStep.yield r)) (TP X pins σ Q) X.xe s
theorem test_nil{X:Cx}:TestR X [] (fun _ H Q=>Q true H):=fun pins s σ H Q I h=>by
 show wpAny _ _ (pure true) _ _ _
 exact wpAny_pure ⟨H,I,h⟩
theorem test_one{X:Cx}{c:Expr}{tc:TT}(hc:PT X c tc):TestR X [c] tc:=fun pins s σ H Q I h=>by
 rw[List.forIn_cons]
 simp only[if_true]
 refine wpAny_bind (wpAny_bind (thn (hc pins s σ H Q I h) fun b s1 q=>wpAny_pure ?_))
 show wpAny _ _ (pure b) _ _ _
 exact wpAny_pure q
theorem comp_block{X:Cx}{pins:List (Addr×Obj)}{σ:L2.St}{H:Hp}{s:Shared}{elt tg iter:Expr}{ifs:List Expr}{scope:Scope}{pos:Pos}{it:Addr}{fp:List Addr}{tn:Nat→Heap→Prop}{J:It}{N:List Str}{src:List (Option Nat)}
  {g:TG}{tt:TT}{te:TE}{E:Value→Shared→Prop}{Fin:List V→Hp→Prop}{RR:Value→Addr→Result→Shared→Prop}(hc:X.calm=true) (I:Inv X pins σ H s) (T:Turn X.prog X.w X.K tg J fp it tn) (st0:tn 0 s.heap) (hfp:∀ b∈fp,FpOk X pins H b) (S:CompScope X N src scope)
  (hg:∀ C,PG (cxComp X N scope C fp s H) tg g) (ht:∀ C,TestR (cxComp X N scope C fp s H) ifs tt) (he:∀ C,PE (cxComp X N scope C fp s H) elt te)
  (W:Nat→Nat→List V→L2.St→Hp→Prop) (w0:∃ k,W 0 k [] (innerS src σ) H)
  (step:∀ i k acc σ H,W i k acc σ H→(J.stop i H∧acc.length≤sizeLine∧Fin acc H)∨(J.go i H∧acc.length<sizeLine∧∀ x H',J.yld i H x H'→g x σ H' fun σ2 H2=>tt σ2 H2 fun b H3=>
   if b=true then te σ2 H3 fun v H4=>∃ k',k'<k∧W (i+1) k' (acc++[v]) σ2 H4 else ∃ k',k'<k∧W (i+1) k' acc σ2 H3))
  (hRR:∀ D C s' H' acc,Fin acc H'→H' D=none→Inv X pins σ (upd H' D (.lst acc)) s'→FpOk X pins (upd H' D (.lst acc)) C→(∃ m,s'.heap.Ns C m)→RR (.ref D) C (.ok .next) s') :
  wpAny (model X.prog X.w) X.A (newList []) (fun acc s₃=>wpAny (model X.prog X.w) X.A (newFunctionEnv scope X.env.globals (closL X.env.cells scope.names []) [] X.env.qual none .none (some X.env)) (fun cenv s₄=>
   codeAny (model X.prog X.w) X.A (.compStart (.ListComp elt [⟨tg,iter,ifs,0⟩] scope pos) 0 (.ref it) acc { cenv with scope:=relabel scope X.env }) (RR acc cenv.locals) s₄) E s₃) E s:=by
 have hlt:∀ b∈fp,b<s.heap.objs.size:=fun b hb=>by obtain⟨o,e,_⟩:=T.obj 0 _ st0 b hb; exact Heap.lt_size e
 refine wpAny_newObj_type (wpAny_newFunctionEnv S.cell (by intro y hy; simp at hy) (fun h₁ hns₁ hsb₁=>?_) S.kind)
 dsimp only at hns₁ hsb₁ ⊢
 generalize hH2:s.heap.push { cls:=.type "list",dict:=none,data:=.seq ([]:List Value).toArray }=H2 at hns₁ hsb₁ ⊢
 have hC:H2.objs.size=s.heap.objs.size+1:=by rw[← hH2,Heap.size_push]
 have hDC:s.heap.objs.size≠H2.objs.size:=by rw[hC]; exact Nat.ne_of_lt (Nat.lt_succ_self _)
 have hCle:s.heap.objs.size≤H2.objs.size:=by rw[hC]; exact Nat.le_succ _
 have old:∀ b o,s.heap.get? b=some o→h₁.get? b=some o:=fun b o e=>hsb₁.extBut b o (by rw[hC]; exact Nat.ne_of_lt (Nat.lt_succ_of_lt (Heap.lt_size e))) (Heap.get?_push_of_some _ (hH2▸Heap.get?_push_of_some _ e))
 have hacc:h₁.get? s.heap.objs.size=some { cls:=.type "list",data:=.seq ([]:List Value).toArray }:=hsb₁.extBut _ _ hDC (Heap.get?_push_of_some _ (hH2▸Heap.get?_push_size _ rfl))
 generalize hDd:s.heap.objs.size=Dd at hDC hCle hacc
 generalize hCc:H2.objs.size=Cc at hDC hCle hns₁ hsb₁ hC ⊢
 have hDs:s.heap.objs.size≤Dd:=Nat.le_of_eq hDd
 have hCs:s.heap.objs.size≤Cc:=by rw[hDd]; exact hCle
 have fD:H Dd=none:=I.hok.fresh hDs
 have I1:Inv (cxComp X N scope Cc fp s H) [] (innerS src σ) H { s with heap:=h₁,toks:=s.toks+([]:List (Str×Value)).length }:=comp_start S I hCs hfp hlt old hns₁
 have nfp:∀ b∈fp,b≠Dd:=fun b hb=>by rw[← hDd]; exact Nat.ne_of_lt (hlt b hb)
 have cellD:∀ x c,(cxComp X N scope Cc fp s H).env.cells.lookup x=some c→c≠Dd:=fun x c e z=>by
  have e':=closL_out _ [] (fun _ _ z=>nomatch z) x c e
  obtain⟨v,o,ho,_⟩:=I.cell x c e'
  rw[z,← hDd]at ho
  exact Nat.lt_irrefl _ (Heap.lt_size ho)
 have fsD:Dd ∉ (cxComp X N scope Cc fp s H).fs:=fun z=>by
  obtain⟨_,o,ho,_⟩:=I1.ok.funs.mem z
  have ho:s.heap.get? Dd=some o:=ho
  rw[← hDd]at ho
  exact Nat.lt_irrefl _ (Heap.lt_size ho)
 have stat:∀ {pl:List (Addr×Obj)}{H':Hp},(∀ p∈pl,p.1=Dd)→(∀ b∈fp,H' b=none)→∀ b∈fp,FpOk (cxComp X N scope Cc fp s H) pl H' b:=fun {pl H'} hpl hn b hb=>
  ⟨hn b hb,(I1.ok.exf b hb).1,I1.ok.exfs b hb,.inl hb,(I1.ok.exf b hb).2,fun p hp=>by
   have hp':p∈pl:=hp
   rw[hpl p hp']; exact(nfp b hb).symm⟩
 obtain⟨k0,w0⟩:=w0
 have loop:∀ s₃:Shared,s₃={ s with heap:=h₁,toks:=s.toks+([]:List (Str×Value)).length }→
   codeAny (model X.prog X.w) X.A (.compLoop (.ListComp elt [⟨tg,iter,ifs,0⟩] scope pos) 0 (.ref it) (.ref Dd) (compEnvC scope (closL X.env.cells scope.names []) Cc X.env)) (RR (.ref Dd) Cc) s₃:=by
  rintro s₃ rfl
  refine compLoop_any (fun k s'=>∃ i acc its nn σ' H',Inv (cxComp X N scope Cc fp s H) [] σ' H' s'∧tn i s'.heap∧(∀ b∈fp,H' b=none)∧W i k acc σ' H'∧Vals acc its∧s'.heap.get? Dd=some { cls:=.type "list",data:=.seq its.toArray nn }∧H' Dd=none) ?_ k0
   ⟨0,[],[],0,innerS src σ,H,I1,T.keep _ _ _ st0 fun b _ o e=>old b o e,fun b hb=>(hfp b hb).1,w0,.nil,hacc,fD⟩
  rintro k s3 ⟨i,acc,its,nn,σ3,H3,I3,t3,fr3,w3,rv,ho3,nD3⟩
  have I3':Inv (cxComp X N scope Cc fp s H) [(Dd,{ cls:=.type "list",data:=.seq its.toArray nn })] σ3 H3 s3:=I3.pins_of fun p hp=>by
   have e:p=(Dd,{ cls:=.type "list",data:=.seq its.toArray nn }):=by simpa using hp
   subst e
   exact⟨ho3,nD3,hDC,fsD,fun v z=>by
    have z':Data.seq its.toArray nn=Data.cell v:=z
    cases z'⟩
  rcases step i k acc σ3 H3 w3 with⟨stop,hz,fin⟩|⟨go,hz,next⟩
  ·refine thn (T.done (cxComp X N scope Cc fp s H) rfl rfl rfl hc i _ s3 σ3 H3 NoX I3' (stat (fun p hp=>by rw[List.mem_singleton.mp hp]) fr3) t3 stop) fun r s4 ⟨hr,I4⟩=>?_
   subst hr
   have p4:=I4.pin (Dd,{ cls:=.type "list",data:=.seq its.toArray nn }) (List.mem_append_right _ (by simp))
   have I5:Inv X pins σ H3 s4:=I.call' I4.os I4.base I4.hok I4.bare fun b hb=>⟨(hfp b hb).2.2.2.1,(hfp b hb).2.1,(hfp b hb).2.2.2.2.1,(hfp b hb).2.2.2.2.2⟩
   have fpD:FpOk X pins H3 Dd:=I.fpOk hDs nD3
   refine hRR Dd Cc s4 H3 acc fin nD3 (Inv.track I5 fpD ⟨hz,its,nn,rv,p4.1⟩) (I.fpOk hCs (by rw[upd_ne (Ne.symm hDC)]; exact I4.free)) ?_
   obtain⟨m4,n4,_⟩:=I4.loc
   exact⟨m4,n4⟩
  ·refine thn (T.item (cxComp X N scope Cc fp s H) rfl rfl rfl hc i _ s3 σ3 H3 NoX I3' (stat (fun p hp=>by rw[List.mem_singleton.mp hp]) fr3) t3 go) fun r s4 ⟨u,hr,h4⟩=>?_
   subst hr
   refine thn h4 fun _ s5 ⟨x,H5,I5,r5,y5,t5,fr5⟩=>?_
   have I5':=I5.pinned (stat (fun p hp=>by rw[List.mem_singleton.mp hp]) fr5) (T.obj _ _ t5)
   refine thn (hg Cc _ s5 σ3 H5 x u _ I5' r5 (next x H5 y5)) fun _ s6 ⟨σ6,H6,I6,q6⟩=>?_
   refine thn (ht Cc _ s6 σ6 H6 _ I6 q6) fun b s7 ⟨H7,I7,q7⟩=>?_
   have back:∀ {σ8:L2.St}{H8:Hp}{s8:Shared},Inv (cxComp X N scope Cc fp s H) ([(Dd,{ cls:=.type "list",data:=.seq its.toArray nn })]++pinsAt fp s5.heap) σ8 H8 s8→
     tn (i+1) s8.heap∧(∀ b∈fp,H8 b=none)∧s8.heap.get? Dd=some { cls:=.type "list",data:=.seq its.toArray nn }∧H8 Dd=none:=fun {σ8 H8 s8} I8=>by
    refine⟨T.keep _ _ _ t5 fun b hb o e=>(I8.pin (b,o) (List.mem_append_right _ (List.mem_append_right _ (mem_pinsAt hb e)))).1,fun b hb=>?_,?_,?_⟩
    ·obtain⟨o,e,d⟩:=T.obj _ _ t5 b hb
     exact(I8.pin (b,o) (List.mem_append_right _ (List.mem_append_right _ (mem_pinsAt hb e)))).2.1
    ·exact(I8.pin (Dd,_) (List.mem_append_right _ (List.mem_append_left _ (by simp)))).1
    ·exact(I8.pin (Dd,{ cls:=.type "list",data:=.seq its.toArray nn }) (List.mem_append_right _ (List.mem_append_left _ (by simp)))).2.1
   cases b with
   |false=>
    simp only[Bool.false_eq_true,if_false]at q7 ⊢
    obtain⟨k',hk,w7⟩:=q7
    obtain⟨b1,b2,b3,b4⟩:=back I7
    exact⟨k',hk,i+1,acc,its,nn,σ6,H7,I7.pins_of fun p hp=>absurd hp (by simp),b1,b2,w7,rv,b3,b4⟩
   |true=>
    simp only[if_true]at q7 ⊢
    refine thn (he Cc _ s7 σ6 H7 _ I7 q7) fun y s8 ⟨v8,H8,I8,r8,k',hk,w8⟩=>?_
    obtain⟨b1,b2,b3,b4⟩:=back I8
    have l1:=rv.length
    refine call_meets F.slot_list_append ⟨_,b3,rfl⟩ F.entry_list_append (F.args_list_append_2 _ _) (PySem.list_append Dd its.toArray nn y (by rw[List.size_toArray]; omega)) ⟨b3,?_⟩
    have q:=PySem.IsL.update b3 (fun a=>a.push y)
    have hpush:its.toArray.push y=(its++[y]).toArray:=by simp
    rw[hpush]at q
    have I9:Inv (cxComp X N scope Cc fp s H) [] σ6 H8 s8:=I8.pins_of fun p hp=>absurd hp (by simp)
    have I10:Inv (cxComp X N scope Cc fp s H) [] σ6 H8 { s8 with heap:=s8.heap.update Dd (Obj.mapSeq (·.push y)) }:=
     I9.turned (it:=Dd) (t':=s8.toks) (fun b o hb e=>(Heap.get?_update_other s8.heap _ (Ne.symm hb)).trans e) b4 hDC (.inr hDs) cellD fun p hp=>absurd (show p∈([]:List (Addr×Obj)) from hp) (by simp)
    exact⟨k',hk,i+1,acc++[v8],its++[y],_,σ6,H8,I10,T.keep _ _ _ b1 fun b hb o e=>(Heap.get?_update_other s8.heap _ (Ne.symm (nfp b hb))).trans e,b2,w8,rv.append (.cons r8 .nil),q,b4⟩
 exact codeAny_compStart_list (loop _ rfl) (T.self _ 0 _ _ _ (T.keep _ _ _ st0 fun b _ o e=>old b o e) (loop _ rfl))
noncomputable def tComp(src:List (Option Nat))(wi:TI)(g:TG)(tt:TT)(te:TE):TE:=fun σ H Q=>wi σ H fun J H1=>∃ W:Nat→Nat→List V→L2.St→Hp→Prop,(∃ k,W 0 k [] (innerS src σ) H1)∧
 ∀ i k acc σ' H',W i k acc σ' H'→(J.stop i H'∧acc.length≤sizeLine∧∀ p,H' p=none→Q (.ref p) (upd H' p (.lst acc)))∨(J.go i H'∧acc.length<sizeLine∧∀ x H2,J.yld i H' x H2→g x σ' H2 fun σ2 H3=>tt σ2 H3 fun b H4=>
  if b=true then te σ2 H4 fun v H5=>∃ k',k'<k∧W (i+1) k' (acc++[v]) σ2 H5 else ∃ k',k'<k∧W (i+1) k' acc σ2 H4)
theorem pe_comp{X:Cx}{elt tg iter:Expr}{ifs:List Expr}{scope:Scope}{pos:Pos}{N:List Str}{src:List (Option Nat)}{wi:TI}{g:TG}{tt:TT}{te:TE}(hc:X.calm=true)(S:CompScope X N src scope)(hi:PI X tg iter wi)
  (hg:∀ C fp s H,PG (cxComp X N scope C fp s H) tg g) (ht:∀ C fp s H,TestR (cxComp X N scope C fp s H) ifs tt) (he:∀ C fp s H,PE (cxComp X N scope C fp s H) elt te)
  (hs:∀ x,foldedSetIterable iter X.env x=pure x):PE X (.ListComp elt [⟨tg,iter,ifs,0⟩] scope pos) (tComp src wi g tt te):=by
 intro pins s σ H Q I h
 rw[eval_ListComp]
 refine wpAny_comprehension_free (use:=none) rfl hs (comp_clos S I) S.kind S.loc (thn (hi pins s σ H _ I h) fun v s1 h1=>thn h1 fun itv s2 h2=>?_)
 obtain⟨it,fp,tn,J,H2,e,I2,T,st2,f2,W,w0,turn⟩:=h2
 subst e
 refine comp_block hc I2 T st2 f2 S (fun C=>hg C fp s2 H2) (fun C=>ht C fp s2 H2) (fun C=>he C fp s2 H2) W w0 turn ?_
 intro D C s' H' acc fin nD I' fC hm
 obtain⟨m',hn⟩:=hm
 refine⟨m',hn,fun h' sb=>⟨.ref D,upd H' D (.lst acc),?_,rfl,fin D nD⟩⟩
 obtain⟨c0,c1,c2,c3,c4,c5⟩:=fC
 exact I'.turned (t':=s'.toks) (fun b o hb e=>(sb.2 b hb).trans e) c0 c1 c3 c4 c5
end MS
end
section
namespace MS
open PySem PySem.Spec PyProof.Rows L2
theorem Inv.turnedL{X:Cx}{pins:List (Addr×Obj)}{σ:L2.St}{H:Hp}{s:Shared}{h':Heap}{t':Nat}{ch:List Addr}(I:Inv X pins σ H s)(k:∀ b o,b ∉ ch→s.heap.get? b=some o→h'.get? b=some o)(hf:∀ b∈ch,FpOk X pins H b):Inv X pins σ H { s with heap:=h',toks:=t' }:=by
 have nit:∀ b u,H b=some u→b ∉ ch:=fun b u e z=>by rw[(hf b z).1]at e; cases e
 refine I.step (g':=s.gens) (d':=s.drawn) (ch:=ch) (fun b hb=>?_) (fun b o _ _ hc e _=>k b o hc e) (fun b o _ _ hc e _=>⟨o.slots,k b o hc e⟩) (fun _ _ _ _ n=>n) (fun b o hc e=>⟨o,k b o hc e⟩) (fun _ _ e=>e) (fun _ _ _ e=>e) (fun b ps e=>⟨#[],by rw[e]; simp⟩) (fun m hm=>?_) (fun b u e=>?_) I.bare
 ·obtain⟨f0,f1,f2,f3,f4,f5⟩:=hf b hb
  exact⟨f3,f1,f4,f5⟩
 ·obtain⟨o,es,ep,ho,r⟩:=hm
  exact⟨o,es,ep,k _ o (fun z=>(hf _ z).2.1 rfl) ho,r⟩
 ·refine(I.hok b u e).stay (fun c v hc q=>k c v ?_ q) (fun _ q=>q) fun _ _ q=>q
  rcases hc with z|z
  ·rw[z]; exact nit b u e
  ·exact nit c _ z
inductive RK where
 |lst|tup
noncomputable def RK.It:RK→Heap→Addr→Addr→Nat→Prop
 |.lst,h,it,a,i=>h.IsListIter it a i
 |.tup,h,it,a,i=>h.IsTupleIter it a i
noncomputable def RK.Sq:RK→Heap→Addr→Array Value→Prop
 |.lst,h,a,xs=>h.IsList a xs
 |.tup,h,a,xs=>h.IsTuple a xs
theorem RK.It.on{k:RK}{h h':Heap}{it a:Addr}{i:Nat}(x:k.It h it a i)(e:∀ o,h.get? it=some o→h'.get? it=some o):k.It h' it a i:=by
 cases k with
 |lst=>exact Heap.IsListIter.at x e
 |tup=>obtain⟨o,ho,r⟩:=x; exact⟨o,e o ho,r⟩
theorem RK.Sq.on{k:RK}{h h':Heap}{a:Addr}{xs:Array Value}(x:k.Sq h a xs)(e:∀ o,h.get? a=some o→h'.get? a=some o):k.Sq h' a xs:=by
 cases k with
 |lst=>exact Heap.IsList.at x e
 |tup=>obtain⟨o,ho,r⟩:=x; exact⟨o,e o ho,r⟩
theorem RK.It.obj{k:RK}{h:Heap}{it a:Addr}{i:Nat}(x:k.It h it a i):∃ o,h.get? it=some o∧∀ v,o.data≠.cell v:=by
 cases k with
 |lst=>obtain⟨o,ho,_,d⟩:=x; exact⟨o,ho,fun v z=>by rw[d]at z; cases z⟩
 |tup=>obtain⟨o,ho,_,d⟩:=x; exact⟨o,ho,fun v z=>by rw[d]at z; cases z⟩
section
variable {prog:Program}{w:World}{A:Around}{E:Value→Shared→Prop}{s:Shared}
theorem draw_some{k:RK}{it a:Addr}{i:Nat}{xs:Array Value}{x:Value}{Q:Value→Shared→Prop}(hi:k.It s.heap it a i)(hs:k.Sq s.heap a xs)(hx:xs[i]?=some x)
  (hQ:∀ h',k.It h' it a (i+1)→(∀ b o,b≠it→s.heap.get? b=some o→h'.get? b=some o)→h'.objs.size=s.heap.objs.size→Q x { s with heap:=h' }):wpAny (model prog w) A (Builtin.SmallTypes.nextOf (.ref it)) Q E s:=by
 cases k with
 |lst=>exact wpAny_nextOf_list_item hi hs hx fun h' a1 a2=>hQ h' a1 a2.extBut a2.1
 |tup=>
  obtain⟨o,e1,e2,e3⟩:=id hi
  obtain⟨q,f1,_,m,f2⟩:=hs
  unfold Builtin.SmallTypes.nextOf
  refine wpAny_bind (wpAny_callSpecial?_slot (name:=Str.ofString "__next__") (Heap.IsTupleIter.typeIs hi) F.slot_tuple_iterator_next (wpAny_call_entry F.slot_tuple_iterator_next (Heap.IsTupleIter.typeIs hi) F.entry_tuple_iterator_next ?_ (F.args_tuple_iterator_next_1 _)))
  show wpAny _ _ (field (.ref it) 0 >>= _) _ _ _
  refine wpAny_bind (wpAny_field e1 e3 (x:=.ref a) rfl ?_)
  show wpAny _ _ (if (Value.ref a==Value.none)=true then _ else _) _ _ _
  rw[if_neg (show ¬ ((Value.ref a==Value.none)=true) from fun z=>nomatch z)]
  show wpAny _ _ (field (.ref it) 1 >>= _) _ _ _
  refine wpAny_bind (wpAny_field e1 e3 (x:=.int i 0) rfl ?_)
  show wpAny _ _ (seqItems? (.ref a) >>= _) _ _ _
  refine wpAny_bind (wpAny_seqItems f1 f2 ?_)
  simp only[Int.toNat_natCast,hx]
  refine wpAny_bind (wpAny_setField e1 e3 (by simp) (wpAny_pure ⟨x,rfl,wpAny_pure (hQ _ ?_ (Heap.SameBut.update ..).extBut (Heap.SameBut.update ..).1)⟩))
  exact⟨_,Heap.get?_update_self _ e1 (Obj.isFreed_of_fields (Obj.data_mapFields e3 _)),(Obj.cls_mapFields ..).trans e2,by rw[Obj.data_mapFields e3]; simp[rawInt]⟩
theorem draw_none{k:RK}{it a:Addr}{i:Nat}{xs:Array Value}{Q:Value→Shared→Prop}(hh:A.handled=none)(hi:k.It s.heap it a i)(hs:k.Sq s.heap a xs)(hx:xs[i]?=none)
  (hE:∀ h' e,(∀ b o,b≠it→s.heap.get? b=some o→h'.get? b=some o)→(∃ o,h'.get? e=some o∧o.cls=.type "StopIteration")→E (.ref e) { s with heap:=h' }):wpAny (model prog w) A (Builtin.SmallTypes.nextOf (.ref it)) Q E s:=by
 cases k with
 |lst=>exact wpAny_nextOf_list_end hh hi hs hx fun h' e a1 a2=>hE h' e a1 a2
 |tup=>
  obtain⟨o,e1,e2,e3⟩:=id hi
  obtain⟨q,f1,_,m,f2⟩:=hs
  unfold Builtin.SmallTypes.nextOf
  refine wpAny_bind (wpAny_callSpecial?_slot (name:=Str.ofString "__next__") (Heap.IsTupleIter.typeIs hi) F.slot_tuple_iterator_next (wpAny_call_entry F.slot_tuple_iterator_next (Heap.IsTupleIter.typeIs hi) F.entry_tuple_iterator_next ?_ (F.args_tuple_iterator_next_1 _)))
  show wpAny _ _ (field (.ref it) 0 >>= _) _ _ _
  refine wpAny_bind (wpAny_field e1 e3 (x:=.ref a) rfl ?_)
  show wpAny _ _ (if (Value.ref a==Value.none)=true then _ else _) _ _ _
  rw[if_neg (show ¬ ((Value.ref a==Value.none)=true) from fun z=>nomatch z)]
  show wpAny _ _ (field (.ref it) 1 >>= _) _ _ _
  refine wpAny_bind (wpAny_field e1 e3 (x:=.int i 0) rfl ?_)
  show wpAny _ _ (seqItems? (.ref a) >>= _) _ _ _
  refine wpAny_bind (wpAny_seqItems f1 f2 ?_)
  simp only[Int.toNat_natCast,hx]
  refine wpAny_bind (wpAny_rule (wpAny_bind (wpAny_setField e1 e3 (by simp) ?_))); show wpAny _ _ (newExc (.type "StopIteration") [] >>= _) _ _ _
  refine wpAny_bind ?_; simp only[newExc,newTuple]
  refine wpAny_bind (wpAny_newObj_type ?_ (by size_fits)); refine wpAny_bind (m:=firstArgMember _ _) (wpAny_of_eq (a:=Value.none) (by first|rfl|(simp only[firstArgMember]; rfl)) ?_)
  refine wpAny_newObj_type ?_ (by size_fits); simp only[raiseNew]
  refine wpAny_bind (wpAny_handled ?_)
  first|rw[show A.in1.handled=none from hh]|(rw[hh])
  refine wpAny_bind (wpAny_pure (wpAny_throw ?_))
  exact hE _ _ (((Heap.SameBut.update ..).extBut.push _).push _) ⟨_,Heap.get?_push_size _ rfl,by rfl⟩
end
section
variable {prog:Program}{w:World}{A:Around}{E:Value→Shared→Prop}{s:Shared}
theorem pair_put{T:Addr}{a b x:Value}{j:Nat}{Q:Unit→Shared→Prop}(hT:IsPair s.heap T a b)
  (h:∀ h',h'.get? T=some { cls:=.type "tuple",data:=.seq ((#[a,b]:Array Value).setIfInBounds j x) }→(∀ c o,c≠T→s.heap.get? c=some o→h'.get? c=some o)→h'.objs.size=s.heap.objs.size→Q () { s with heap:=h' }) :
  wpAny (model prog w) A (updateSeq T (·.setIfInBounds j x)) Q E s:=
 wpAny_updateSeq_pair hT fun h' a1 a2=>h h' a1 a2.extBut a2.1
theorem zip_get{n l1 l2:Nat}{k1 k2:RK}{i:Nat}{xs ys:Array Value}{x y a b:Value}{Q:Option Value→Shared→Prop}(n1:l1<n)(n2:l2<n)
  (hz:IsZip s.heap (n+4) (n+2) (n+3) .none) (hI:IsPair s.heap (n+2) (.ref n) (.ref (n+1))) (hO:IsPair s.heap (n+3) a b) (h1:k1.It s.heap n l1 i) (h2:k2.It s.heap (n+1) l2 i) (s1:k1.Sq s.heap l1 xs) (s2:k2.Sq s.heap l2 ys) (hx:xs[i]?=some x) (hy:ys[i]?=some y)
  (hQ:∀ h',IsZip h' (n+4) (n+2) (n+3) (rawInt s.heap.objs.size)→IsPair h' (n+2) (.ref n) (.ref (n+1))→IsPair h' (n+3) x y→k1.It h' n l1 (i+1)→k2.It h' (n+1) l2 (i+1)→IsPair h' s.heap.objs.size x y→
   (∀ c o,c≠n+4→c≠n+3→c≠n→c≠n+1→s.heap.get? c=some o→h'.get? c=some o)→Q (some (.ref s.heap.objs.size)) { s with heap:=h' }) :
  wpAny (model prog w) A (pyNext (.ref (n+4))) Q E s:=by
 have hT:s.TypeIs (.ref (n+4)) "zip":=⟨_,hz,rfl⟩
 unfold pyNext
 refine wpAny_bind (wpAny_attempt (wpAny_callSpecial?_slot (name:=Str.ofString "__next__") hT F.slot_zip_next (wpAny_call_entry F.slot_zip_next hT F.entry_zip_next ?_ (F.args_zip_next_1 _))))
 show wpAny _ _ (field (.ref (n+4)) 2 >>= _) _ _ _
 refine wpAny_bind (wpAny_field hz rfl (x:=.bool false) rfl ?_)
 show wpAny _ _ (field (.ref (n+4)) 3 >>= _) _ _ _
 refine wpAny_bind (wpAny_field hz rfl (x:=.ref (n+2)) rfl ?_)
 refine wpAny_bind (wpAny_seqItems hI rfl ?_)
 show wpAny _ _ (Builtin.SmallTypes.ownedTupleIsFree (.ref (n+4)) >>= _) _ _ _
 refine wpAny_bind ?_
 unfold Builtin.SmallTypes.ownedTupleIsFree
 refine wpAny_bind (wpAny_field hz rfl (x:=.none) rfl (wpAny_pure ?_))
 simp only[if_true]
 refine wpAny_bind (wpAny_rule ?_)
 refine wpAny_bind (wpAny_field hz rfl (x:=.ref (n+3)) rfl ?_)
 refine wpAny_bind (wpAny_setField_rec hz (by simp) fun g1 z1 u1=>?_)
 replace z1:IsZip g1 (n+4) (n+2) (n+3) .ellipsis:=z1
 have v1:=u1.extBut
 refine wpAny_bind ?_
 simp only[List.zipIdx_cons,List.zipIdx_nil,List.forIn_cons,List.forIn_nil]
 refine wpAny_bind (wpAny_bind (wpAny_onRaise ?_)); show wpAny _ _ (Builtin.SmallTypes.nextOf (.ref n) >>= _) _ _ _
 refine wpAny_bind (draw_some (s:={ s with heap:=g1 }) (h1.on fun o e=>v1 _ o (by show @Ne Nat _ _; omega) e) (s1.on fun o e=>v1 _ o (by show @Ne Nat _ _; omega) e) hx fun g2 i2 v2 c2=>wpAny_pure ?_)
 have O2:IsPair g2 (n+3) a b:=v2 _ _ (by show @Ne Nat _ _; omega) (v1 _ _ (by show @Ne Nat _ _; omega) hO)
 refine wpAny_bind (wpAny_seqItems O2 rfl ?_)
 refine wpAny_bind (pair_put O2 fun g3 O3 v3 c3=>?_)
 replace O3:IsPair g3 (n+3) x b:=O3
 refine wpAny_bind (wpAny_letGo (wpAny_pure ?_))
 refine wpAny_bind (wpAny_bind (wpAny_onRaise ?_)); show wpAny _ _ (Builtin.SmallTypes.nextOf (.ref (n+1)) >>= _) _ _ _
 refine wpAny_bind (draw_some (s:={ s with heap:=g3 }) (h2.on fun o e=>v3 _ o (by show @Ne Nat _ _; omega) (v2 _ o (by show @Ne Nat _ _; omega) (v1 _ o (by show @Ne Nat _ _; omega) e))) (s2.on fun o e=>v3 _ o (by show @Ne Nat _ _; omega) (v2 _ o (by show @Ne Nat _ _; omega) (v1 _ o (by show @Ne Nat _ _; omega) e))) hy fun g4 i4 v4 c4=>wpAny_pure ?_)
 have O4:IsPair g4 (n+3) x b:=v4 _ _ (by show @Ne Nat _ _; omega) O3
 refine wpAny_bind (wpAny_seqItems O4 rfl ?_)
 refine wpAny_bind (pair_put O4 fun g5 O5 v5 c5=>?_)
 replace O5:IsPair g5 (n+3) x y:=O5
 refine wpAny_bind (wpAny_letGo (wpAny_pure (wpAny_pure ?_)))
 refine wpAny_bind (wpAny_seqItems O5 rfl ?_)
 refine wpAny_bind (wpAny_newTuple ?_)
 have sz:g5.objs.size=s.heap.objs.size:=c5.trans (c4.trans (c3.trans (c2.trans u1.1)))
 have z5:IsZip g5 (n+4) (n+2) (n+3) .ellipsis:=v5 _ _ (by show @Ne Nat _ _; omega) (v4 _ _ (by show @Ne Nat _ _; omega) (v3 _ _ (by show @Ne Nat _ _; omega) (v2 _ _ (by show @Ne Nat _ _; omega) z1)))
 have up5:∀ c o,c≠n+4→c≠n+3→c≠n→c≠n+1→s.heap.get? c=some o→g5.get? c=some o:=fun c o c1 c2 c3 c4 e=>v5 _ _ c2 (v4 _ _ c4 (v3 _ _ c2 (v2 _ _ c3 (v1 _ _ c1 e))))
 have j1:k1.It g5 n l1 (i+1):=i2.on fun o e=>v5 _ o (by show @Ne Nat _ _; omega) (v4 _ o (by show @Ne Nat _ _; omega) (v3 _ o (by show @Ne Nat _ _; omega) e))
 have j2:k2.It g5 (n+1) l2 (i+1):=i4.on fun o e=>v5 _ o (by show @Ne Nat _ _; omega) e
 have lz:n+4<g5.objs.size:=Heap.lt_size z5
 show wpAny _ _ (Builtin.SmallTypes.ownedTupleHandOut (.ref (n+4)) (.ref g5.objs.size) >>= _) _ _ _
 refine wpAny_bind ?_
 unfold Builtin.SmallTypes.ownedTupleHandOut
 have z6:IsZip (g5.push { cls:=.type "tuple",data:=.seq #[x,y] }) (n+4) (n+2) (n+3) .ellipsis:=Heap.get?_push_of_some _ z5
 refine wpAny_bind (wpAny_setField_rec z6 (by simp) fun g7 z7 u7=>?_)
 replace z7:IsZip g7 (n+4) (n+2) (n+3) (rawInt g5.objs.size):=z7
 refine wpAny_setField_rec z7 (by simp) fun g8 z8 u8=>?_
 replace z8:IsZip g8 (n+4) (n+2) (n+3) (rawInt g5.objs.size):=z8
 have up:∀ c o,c≠n+4→g5.get? c=some o→g8.get? c=some o:=fun c o c1 e=>u8.extBut _ _ c1 (u7.extBut _ _ c1 (Heap.get?_push_of_some _ e))
 have t8:IsPair g8 g5.objs.size x y:=u8.extBut _ _ (Nat.ne_of_gt lz) (u7.extBut _ _ (Nat.ne_of_gt lz) (Heap.get?_push_size _ rfl))
 rw[sz]at z8 t8
 refine wpAny_pure ⟨_,rfl,wpAny_pure ?_⟩
 show Q (some (.ref g5.objs.size)) _
 rw[sz]
 exact hQ g8 z8 (up _ _ (by show @Ne Nat _ _; omega) (up5 _ _ (by show @Ne Nat _ _; omega) (by show @Ne Nat _ _; omega) (by show @Ne Nat _ _; omega) (by show @Ne Nat _ _; omega) hI)) (up _ _ (by show @Ne Nat _ _; omega) O5) (j1.on fun o e=>up _ o (by show @Ne Nat _ _; omega) e) (j2.on fun o e=>up _ o (by show @Ne Nat _ _; omega) e) t8 fun c o c1 c2 c3 c4 e=>up c o c1 (up5 c o c1 c2 c3 c4 e)
theorem zip_over{n l1 l2:Nat}{k1 k2:RK}{i:Nat}{xs ys:Array Value}{a b:Value}{Q:Option Value→Shared→Prop}(hh:A.handled=none)(n1:l1<n)(n2:l2<n)
  (hz:IsZip s.heap (n+4) (n+2) (n+3) .none) (hI:IsPair s.heap (n+2) (.ref n) (.ref (n+1))) (hO:IsPair s.heap (n+3) a b) (h1:k1.It s.heap n l1 i) (h2:k2.It s.heap (n+1) l2 i) (s1:k1.Sq s.heap l1 xs) (s2:k2.Sq s.heap l2 ys) (hend:xs[i]?=none∨ys[i]?=none)
  (hQ:∀ h',(∀ c o,c≠n+4→c≠n+3→c≠n→c≠n+1→s.heap.get? c=some o→h'.get? c=some o)→Q none { s with heap:=h' }) :
  wpAny (model prog w) A (pyNext (.ref (n+4))) Q E s:=by
 have hT:s.TypeIs (.ref (n+4)) "zip":=⟨_,hz,rfl⟩
 have fin:∀ (h':Heap) (e:Addr),(∀ c o,c≠n+4→c≠n+3→c≠n→c≠n+1→s.heap.get? c=some o→h'.get? c=some o)→(∃ o,h'.get? e=some o∧o.cls=.type "StopIteration")→
   wpAny (model prog w) A (do if (← isInstance (.ref e) (.type "StopIteration")) then pure none else(throw (Value.ref e):Sem (Option Value))) Q E { s with heap:=h' }:=fun h' e hk he=>by
  obtain⟨o,ho,hc⟩:=he
  refine wpAny_bind (wpAny_isInstance (T:="StopIteration") (b:=true) ⟨o,ho,hc⟩ isSubtype_stop ?_)
  exact wpAny_pure (hQ _ hk)
 unfold pyNext
 refine wpAny_bind (wpAny_attempt (wpAny_callSpecial?_slot (name:=Str.ofString "__next__") hT F.slot_zip_next (wpAny_call_entry F.slot_zip_next hT F.entry_zip_next ?_ (F.args_zip_next_1 _))))
 show wpAny _ _ (field (.ref (n+4)) 2 >>= _) _ _ _
 refine wpAny_bind (wpAny_field hz rfl (x:=.bool false) rfl ?_)
 show wpAny _ _ (field (.ref (n+4)) 3 >>= _) _ _ _
 refine wpAny_bind (wpAny_field hz rfl (x:=.ref (n+2)) rfl ?_)
 refine wpAny_bind (wpAny_seqItems hI rfl ?_)
 show wpAny _ _ (Builtin.SmallTypes.ownedTupleIsFree (.ref (n+4)) >>= _) _ _ _
 refine wpAny_bind ?_
 unfold Builtin.SmallTypes.ownedTupleIsFree
 refine wpAny_bind (wpAny_field hz rfl (x:=.none) rfl (wpAny_pure ?_))
 simp only[if_true]
 refine wpAny_bind (wpAny_rule ?_)
 refine wpAny_bind (wpAny_field hz rfl (x:=.ref (n+3)) rfl ?_)
 refine wpAny_bind (wpAny_setField_rec hz (by simp) fun g1 z1 u1=>?_)
 replace z1:IsZip g1 (n+4) (n+2) (n+3) .ellipsis:=z1
 have v1:=u1.extBut
 refine wpAny_bind ?_
 simp only[List.zipIdx_cons,List.zipIdx_nil,List.forIn_cons,List.forIn_nil]
 refine wpAny_bind (wpAny_bind (wpAny_onRaise ?_)); show wpAny _ _ (Builtin.SmallTypes.nextOf (.ref n) >>= _) _ _ _
 cases hx:xs[i]? with
 |none=>
  refine wpAny_bind (draw_none (s:={ s with heap:=g1 }) hh (h1.on fun o e=>v1 _ o (by show @Ne Nat _ _; omega) e) (s1.on fun o e=>v1 _ o (by show @Ne Nat _ _; omega) e) hx fun g2 e v2 he=>?_)
  obtain⟨oe,ho,hc⟩:=he
  have z2:IsZip g2 (n+4) (n+2) (n+3) .ellipsis:=v2 _ _ (by show @Ne Nat _ _; omega) z1
  have ez:e≠n+4:=fun q=>by subst q; rw[z2]at ho; cases ho; simp at hc
  exact wpAny_setField_rec z2 (by simp) fun g3 _ u3=>fin g3 e (fun c o c1 _ c3 _ q=>u3.extBut _ _ c1 (v2 _ _ c3 (v1 _ _ c1 q))) ⟨oe,u3.extBut _ _ ez ho,hc⟩
 |some x=>
  have hy:ys[i]?=none:=by
   rcases hend with h|h
   ·rw[hx]at h; cases h
   ·exact h
  refine wpAny_bind (draw_some (s:={ s with heap:=g1 }) (h1.on fun o e=>v1 _ o (by show @Ne Nat _ _; omega) e) (s1.on fun o e=>v1 _ o (by show @Ne Nat _ _; omega) e) hx fun g2 i2 v2 c2=>wpAny_pure ?_)
  have O2:IsPair g2 (n+3) a b:=v2 _ _ (by show @Ne Nat _ _; omega) (v1 _ _ (by show @Ne Nat _ _; omega) hO)
  refine wpAny_bind (wpAny_seqItems O2 rfl ?_)
  refine wpAny_bind (pair_put O2 fun g3 O3 v3 c3=>?_)
  refine wpAny_bind (wpAny_letGo (wpAny_pure ?_))
  refine wpAny_bind (wpAny_bind (wpAny_onRaise ?_)); show wpAny _ _ (Builtin.SmallTypes.nextOf (.ref (n+1)) >>= _) _ _ _
  refine wpAny_bind (draw_none (s:={ s with heap:=g3 }) hh (h2.on fun o e=>v3 _ o (by show @Ne Nat _ _; omega) (v2 _ o (by show @Ne Nat _ _; omega) (v1 _ o (by show @Ne Nat _ _; omega) e))) (s2.on fun o e=>v3 _ o (by show @Ne Nat _ _; omega) (v2 _ o (by show @Ne Nat _ _; omega) (v1 _ o (by show @Ne Nat _ _; omega) e))) hy fun g4 e v4 he=>?_)
  obtain⟨oe,ho,hc⟩:=he
  have z4:IsZip g4 (n+4) (n+2) (n+3) .ellipsis:=v4 _ _ (by show @Ne Nat _ _; omega) (v3 _ _ (by show @Ne Nat _ _; omega) (v2 _ _ (by show @Ne Nat _ _; omega) z1))
  have ez:e≠n+4:=fun q=>by subst q; rw[z4]at ho; cases ho; simp at hc
  exact wpAny_setField_rec z4 (by simp) fun g5 _ u5=>fin g5 e (fun c o c1 c2 c3 c4 q=>u5.extBut _ _ c1 (v4 _ _ c4 (v3 _ _ c2 (v2 _ _ c3 (v1 _ _ c1 q))))) ⟨oe,u5.extBut _ _ ez ho,hc⟩
end
noncomputable def RK.itO(k:RK)(a:Addr):Obj:=match k with
 |.lst=>{ cls:=.type "list_iterator",data:=.fields #[.ref a,.int 0 0] }
 |.tup=>{ cls:=.type "tuple_iterator",data:=.fields #[.ref a,.int 0 0] }
theorem row_iter{prog:Program}{w:World}{A:Around}{E:Value→Shared→Prop}{s:Shared}{k:RK}{a:Addr}{xs:Array Value}{Q:Value→Shared→Prop}(hs:k.Sq s.heap a xs)(hQ:Q (.ref s.heap.objs.size) { s with heap:=s.heap.push (k.itO a) }):wpAny (model prog w) A (pyIter (.ref a)) Q E s:=by
 cases k with
 |lst=>exact wpAny_pyIter_list hs hQ
 |tup=>exact wpAny_pyIter_tuple hs hQ
theorem row_new{h:Heap}{k:RK}{a:Addr}:k.It (h.push (k.itO a)) h.objs.size a 0:=by
 cases k with
 |lst=>exact⟨_,Heap.get?_push_size _ rfl,rfl,rfl⟩
 |tup=>exact⟨_,Heap.get?_push_size _ rfl,rfl,rfl⟩
noncomputable abbrev zh1(k1:RK)(h:Heap)(l1:Addr):Heap:=h.push (k1.itO l1)
noncomputable abbrev zh2(k1 k2:RK)(h:Heap)(l1 l2:Addr):Heap:=(zh1 k1 h l1).push (k2.itO l2)
noncomputable abbrev zh3(k1 k2:RK)(h:Heap)(l1 l2:Addr):Heap:=(zh2 k1 k2 h l1 l2).push { cls:=.type "tuple",data:=.seq #[.ref h.objs.size,.ref (zh1 k1 h l1).objs.size] }
noncomputable abbrev zh4(k1 k2:RK)(h:Heap)(l1 l2:Addr):Heap:=(zh3 k1 k2 h l1 l2).push { cls:=.type "tuple",data:=.seq #[.none,.none] }
noncomputable abbrev zh5(k1 k2:RK)(h:Heap)(l1 l2:Addr):Heap:=(zh4 k1 k2 h l1 l2).push { cls:=.type "zip",data:=.fields #[.none,.bool false,.bool false,.ref (zh2 k1 k2 h l1 l2).objs.size,.ref (zh3 k1 k2 h l1 l2).objs.size] }
theorem zip_made(k1 k2:RK)(l1 l2:Addr)(xs ys:Array Value):Meets (Builtin.«zip.__new__» ⟨[.type "zip",.ref l1,.ref l2],[]⟩) (fun _ R s=>k1.Sq s.heap l1 xs∧k2.Sq s.heap l2 ys∧R (.ok (.ret (.ref (zh4 k1 k2 s.heap l1 l2).objs.size))) { s with heap:=zh5 k1 k2 s.heap l1 l2 }):=
 .of_wp fun prog w A R s h=>by
  obtain⟨hp,g,d,tk,os⟩:=s
  obtain⟨q1,q2,h⟩:=h
  have hsub:=sub_zip
  have L1:k1.Sq (Shared.heap ⟨hp,g,d,tk,os⟩) l1 xs:=q1
  have L2:k2.Sq (Shared.heap ⟨hp.push (k1.itO l1),g,d,tk,os⟩) l2 ys:=q2.on fun o e=>Heap.get?_push_of_some _ e
  wp_walk using row_iter L1,row_iter L2
  exact⟨_,rfl,h⟩
def ZipAt(k1 k2:RK)(n l1 l2:Nat)(i:Nat)(h:Heap):Prop:=
 l1<n∧l2<n∧IsZip h (n+4) (n+2) (n+3) .none∧IsPair h (n+2) (.ref n) (.ref (n+1))∧(∃ a b,IsPair h (n+3) a b)∧k1.It h n l1 i∧k2.It h (n+1) l2 i
theorem call_zipK{prog:Program}{w:World}{A:Around}{E:Value→Shared→Prop}{s:Shared}{k1 k2:RK}{l1 l2:Nat}{xs ys:Array Value}{Q:Value→Shared→Prop}(q1:k1.Sq s.heap l1 xs)(q2:k2.Sq s.heap l2 ys)(b1:l1<s.heap.objs.size)(b2:l2<s.heap.objs.size)
  (h:∀ h',ZipAt k1 k2 s.heap.objs.size l1 l2 0 h'→(∀ c o,s.heap.get? c=some o→h'.get? c=some o)→Q (.ref (s.heap.objs.size+4)) { s with heap:=h' }):wpAny (model prog w) A (call (.type "zip") [.ref l1,.ref l2]) Q E s:=by
 refine callType_new F.called_zip (by decide) (F.typeCall_zip_2 _ _) (F.newCall_zip_2 _ _) (fun obj=>F.args_object_init_3 obj _ _) F.entry_zip_new (zip_made k1 k2 l1 l2 xs ys) ⟨q1,q2,?_⟩
 have z1:(zh1 k1 s.heap l1).objs.size=s.heap.objs.size+1:=Heap.size_push ..
 have z2:(zh2 k1 k2 s.heap l1 l2).objs.size=s.heap.objs.size+2:=by rw[Heap.size_push,z1]
 have z3:(zh3 k1 k2 s.heap l1 l2).objs.size=s.heap.objs.size+3:=by rw[Heap.size_push,z2]
 have z4:(zh4 k1 k2 s.heap l1 l2).objs.size=s.heap.objs.size+4:=by rw[Heap.size_push,z3]
 have g5:(zh5 k1 k2 s.heap l1 l2).get? (zh4 k1 k2 s.heap l1 l2).objs.size=some _:=Heap.get?_push_size _ rfl
 have g4:(zh5 k1 k2 s.heap l1 l2).get? (zh3 k1 k2 s.heap l1 l2).objs.size=some _:=Heap.get?_push_of_some _ (Heap.get?_push_size _ rfl)
 have g3:(zh5 k1 k2 s.heap l1 l2).get? (zh2 k1 k2 s.heap l1 l2).objs.size=some _:=Heap.get?_push_of_some _ (Heap.get?_push_of_some _ (Heap.get?_push_size _ rfl))
 have g2:k2.It (zh5 k1 k2 s.heap l1 l2) (zh1 k1 s.heap l1).objs.size l2 0:=row_new.on fun o e=>Heap.get?_push_of_some _ (Heap.get?_push_of_some _ (Heap.get?_push_of_some _ e))
 have g1:k1.It (zh5 k1 k2 s.heap l1 l2) s.heap.objs.size l1 0:=row_new.on fun o e=>Heap.get?_push_of_some _ (Heap.get?_push_of_some _ (Heap.get?_push_of_some _ (Heap.get?_push_of_some _ e)))
 show _∧_
 rw[z2,z3,z4]at g5
 rw[z1,z2]at g3
 rw[z3]at g4
 rw[z1]at g2
 rw[z4]
 exact⟨⟨_,g5,rfl⟩,h _ ⟨b1,b2,g5,g3,⟨_,_,g4⟩,g1,g2⟩ fun c o x=>Heap.get?_push_of_some _ (Heap.get?_push_of_some _ (Heap.get?_push_of_some _ (Heap.get?_push_of_some _ (Heap.get?_push_of_some _ x))))⟩
def RK.sq(k:RK)(K:PySem.W.Frag)(H:Hp)(a:Addr)(xs:List V):Prop:=match k with
 |.lst=>SqL K H a xs
 |.tup=>SqT K H a xs
noncomputable def Itz(K:PySem.W.Frag)(k1 k2:RK)(a b:Addr):It:=
 ⟨fun i H=>∃ xs ys x y,k1.sq K H a xs∧k2.sq K H b ys∧xs[i]?=some x∧ys[i]?=some y,
  fun i H v H'=>∃ p x y,v=.ref p∧H p=none∧H'=upd H p (.tup [x,y])∧(∀ xs,k1.sq K H a xs→xs[i]?=some x)∧∀ ys,k2.sq K H b ys→ys[i]?=some y,
  fun i H=>∃ xs ys,k1.sq K H a xs∧k2.sq K H b ys∧(xs.length≤i∨ys.length≤i)⟩
section
variable {X:Cx}{pins:List (Addr×Obj)}{σ:L2.St}{H:Hp}{s:Shared}
theorem row_of{k:RK}{a:Addr}{xs:List V}(I:Inv X pins σ H s)(q:k.sq X.K H a xs):∃ its,Vals xs its∧k.Sq s.heap a its.toArray:=by
 cases k with
 |lst=>obtain⟨its,rv,p,hz⟩:=I.list q; exact⟨its,rv,p.isList⟩
 |tup=>obtain⟨its,rv,p,hz⟩:=I.tuple q; exact⟨its,rv,show s.heap.IsTuple a its.toArray from p⟩
theorem row_inj{k:RK}{a:Addr}{xs ys:List V}(I:Inv X pins σ H s)(q:k.sq X.K H a xs)(q':k.sq X.K H a ys):xs=ys:=by
 cases k with
 |lst=>exact I.list_inj q q'
 |tup=>exact I.tuple_inj q q'
end
noncomputable def fpZ(n:Nat):List Addr:=[n+4,n+2,n+3,n,n+1]
theorem turn_zip{P:Program}{w:World}{K:PySem.W.Frag}{elts:List Expr}{c:Nat}{pos:Pos}(k1 k2:RK)(n a b:Nat):Turn P w K (.Tuple elts c pos) (Itz K k1 k2 a b) (fpZ n) (n+4) (ZipAt k1 k2 n a b) where
 mem:=by simp[fpZ]
 obj:=fun i h st e he=>by
  obtain⟨b1,b2,hz,hI,⟨x,y,hO⟩,h1,h2⟩:=st
  simp only[fpZ,List.mem_cons,List.not_mem_nil,or_false]at he
  rcases he with rfl|rfl|rfl|rfl|rfl
  ·exact⟨_,hz,fun v z=>nomatch z⟩
  ·exact⟨_,hI,fun v z=>nomatch z⟩
  ·exact⟨_,hO,fun v z=>nomatch z⟩
  ·exact h1.obj
  ·exact h2.obj
 keep:=fun i h h' st k=>by
  obtain⟨b1,b2,hz,hI,⟨x,y,hO⟩,h1,h2⟩:=st
  exact⟨b1,b2,k _ (by simp[fpZ]) _ hz,k _ (by simp[fpZ]) _ hI,⟨x,y,k _ (by simp[fpZ]) _ hO⟩,h1.on fun o e=>k _ (by simp[fpZ]) o e,h2.on fun o e=>k _ (by simp[fpZ]) o e⟩
 item:=by
  intro X hP hw hK hc i pins s σ H E I hf st hg
  subst hP hw hK
  obtain⟨xs,ys,x,y,qx,qy,ex,ey⟩:=hg
  obtain⟨b1,b2,hz,hI,⟨ua,ub,hO⟩,h1,h2⟩:=st
  obtain⟨vx,rx,sx⟩:=row_of I qx
  obtain⟨vy,ry,sy⟩:=row_of I qy
  obtain⟨u1,hu1,ru1⟩:=rx.get ex
  obtain⟨u2,hu2,ru2⟩:=ry.get ey
  refine zip_get b1 b2 hz hI hO h1 h2 sx sy (x:=u1) (y:=u2) (by simpa using hu1) (by simpa using hu2) fun h' a1 a2 a3 a4 a5 a6 kp=>⟨_,rfl,?_⟩
  refine wpAny_letOwnedTupleGo_zip (s:={ s with heap:=h' }) a1 fun h9 c1 c2=>?_
  have ex2:=c2.extBut
  have lt:∀ b∈fpZ n,b≠s.heap.objs.size:=fun b hb z=>by
   have q:b<s.heap.objs.size:=by
    simp only[fpZ,List.mem_cons,List.not_mem_nil,or_false]at hb
    rcases hb with rfl|rfl|rfl|rfl|rfl
    ·exact Heap.lt_size hz
    ·exact Heap.lt_size hI
    ·exact Heap.lt_size hO
    ·obtain⟨o,e,_⟩:=h1.obj; exact Heap.lt_size e
    ·obtain⟨o,e,_⟩:=h2.obj; exact Heap.lt_size e
   rw[z]at q
   exact Nat.lt_irrefl _ q
  have nz:s.heap.objs.size≠n+4:=fun z=>lt (n+4) (by simp[fpZ]) z.symm
  have I1:Inv X pins σ H { s with heap:=h9,toks:=s.toks }:=Inv.turnedL (ch:=fpZ n) I (fun b o hb e=>ex2 _ _ (fun z=>hb (by simp[fpZ,z])) (kp b o (fun z=>hb (by simp[fpZ,z])) (fun z=>hb (by simp[fpZ,z])) (fun z=>hb (by simp[fpZ,z])) (fun z=>hb (by simp[fpZ,z])) e)) hf
  have fr:H s.heap.objs.size=none:=I.hok.fresh (Nat.le_refl _)
  have I2:Inv X pins σ (upd H s.heap.objs.size (.tup [x,y])) { s with heap:=h9,toks:=s.toks }:=Inv.track I1 (I.fpOk (Nat.le_refl _) fr) ⟨by show 2≤sizeLine; decide,[u1,u2],.cons ru1 (.cons ru2 .nil),⟨_,ex2 _ _ nz a6,rfl,_,rfl⟩⟩
  refine⟨.ref s.heap.objs.size,upd H s.heap.objs.size (.tup [x,y]),I2,rfl,⟨_,x,y,rfl,fr,rfl,fun zs hz'=>?_,fun zs hz'=>?_⟩,⟨b1,b2,c1,ex2 _ _ (by show @Ne Nat _ _; omega) a2,⟨_,_,ex2 _ _ (by show @Ne Nat _ _; omega) a3⟩,a4.on fun o e=>ex2 _ o (by show @Ne Nat _ _; omega) e,a5.on fun o e=>ex2 _ o (by show @Ne Nat _ _; omega) e⟩,fun b hb=>?_⟩
  ·rw[row_inj I hz' qx]; exact ex
  ·rw[row_inj I hz' qy]; exact ey
  ·rw[upd_ne (lt b hb)]; exact(hf b hb).1
 done:=by
  intro X hP hw hK hc i pins s σ H E I hf st hg
  subst hP hw hK
  obtain⟨xs,ys,qx,qy,hend⟩:=hg
  obtain⟨b1,b2,hz,hI,⟨ua,ub,hO⟩,h1,h2⟩:=st
  obtain⟨vx,rx,sx⟩:=row_of I qx
  obtain⟨vy,ry,sy⟩:=row_of I qy
  have lx:=rx.length
  have ly:=ry.length
  refine zip_over (I.ok.hd hc) b1 b2 hz hI hO h1 h2 sx sy ?_ fun h' kp=>⟨rfl,Inv.turnedL (ch:=fpZ n) I (fun b o hb e=>kp b o (fun z=>hb (by simp[fpZ,z])) (fun z=>hb (by simp[fpZ,z])) (fun z=>hb (by simp[fpZ,z])) (fun z=>hb (by simp[fpZ,z])) e) hf⟩
  rcases hend with h|h
  ·exact .inl (by simp; omega)
  ·exact .inr (by simp; omega)
 self:=fun _ _ _ _ _ st h=>wpAny_pyIter_zip st.2.2.1 h
noncomputable def iZip(K:PySem.W.Frag)(ta:TA):TI:=fun σ H R=>ta σ H fun vs H1=>∃ (k1 k2:RK) (a b:Addr),vs=[.ref a,.ref b]∧(∃ xs,k1.sq K H1 a xs)∧(∃ ys,k2.sq K H1 b ys)∧R (Itz K k1 k2 a b) H1
theorem pi_zip{X:Cx}{a b:Expr}{ta:TA}{p pos:Pos}{elts:List Expr}{c:Nat}{tpos:Pos}(hg:Gl X "zip")(hm:X.mg "zip" = none)(ha:PA X [a,b] ta)(hs:starEach [a,b] X.env=[(false,eval a X.env),(false,eval b X.env)]:=by rfl)(hs2:starEach [b] X.env=[(false,eval b X.env)]:=by rfl):
  PI X (.Tuple elts c tpos) (.Call (.Name "zip" p) [a,b] [] pos) (iZip X.K ta):=by
 intro pins s σ H R I h
 refine Call_ (ld_blt I hg hm boot_zip (PyProof.Rows.callWith_type1 (thn (ha pos pins s σ H _ I h) fun us s1 ⟨vs,H1,I1,r1,q1⟩=>?_) (by rw[hs,hs2]) (by rw[hs2]; rfl)))
 obtain⟨k1,k2,a,b,e,⟨xs,qx⟩,⟨ys,qy⟩,q⟩:=q1
 subst e
 cases r1 with
 |cons r rr=>
  cases rr with
  |cons r' rr=>
   cases rr
   cases r
   cases r'
   obtain⟨vx,rx,sx⟩:=row_of I1 qx
   obtain⟨vy,ry,sy⟩:=row_of I1 qy
   have la:a<s1.heap.objs.size:=by
    cases k1<;>(obtain⟨o,e,_⟩:=sx; exact Heap.lt_size e)
   have lb:b<s1.heap.objs.size:=by
    cases k2<;>(obtain⟨o,e,_⟩:=sy; exact Heap.lt_size e)
   refine call_zipK sx sy la lb fun h' st kp=>?_
   refine wpAny_pyIter_zip (s:={ s1 with heap:=h' }) st.2.2.1 ?_
   refine⟨s1.heap.objs.size+4,fpZ s1.heap.objs.size,_,_,H1,rfl,I1.kept (t':=s1.toks) kp,turn_zip k1 k2 _ a b,st,fun d hd=>?_,q⟩
   have ld:s1.heap.objs.size≤d:=by
    simp only[fpZ,List.mem_cons,List.not_mem_nil,or_false]at hd
    rcases hd with rfl|rfl|rfl|rfl|rfl<;>(show @LE.le Nat _ _ _; omega)
   exact I1.fpOk ld (I1.hok.fresh ld)
end MS
end
section
namespace MS
open PySem PySem.Spec PyProof.Rows L2
section
variable {X:Cx}
theorem call_intD:CallR X (.type "int") (rC X.K M.bInt):=by
 intro pins s σ H xs us Q I r h
 refine h.el fun m st ds d st' R0 ix e q=>?_
 unfold M.bInt at e
 split at e
 ·rename_i z
  split at e
  ·rename_i hz
   cases e
   obtain⟨x,rfl,i⟩:=ix.one
   have hx:=i.str
   subst hx
   cases r with
   |cons r rr=>
    cases rr
    obtain⟨t,rfl⟩:=r
    simp only[Bool.and_eq_true,decide_eq_true_eq]at hz
    obtain⟨⟨h1,h2⟩,h3⟩:=hz
    have hd:NumText.AllDigits z.cps.toList:=fun c hc=>by
     have:=List.all_eq_true.mp h2 c hc
     unfold M.isFig at this
     simpa using this
    have hne:z.cps.toList≠[]:=fun e=>by rw[e]at h1; cases h1
    exact PySem.W.KIN.call_text (PySem.intText_digits hd hne (by omega)) h3 ⟨.int _,H,I.tok _,⟨_,rfl⟩,q.here R0 (mkInt _)⟩
  ·cases e
 ·rename_i i
  cases e
  obtain⟨x,rfl,j⟩:=ix.one
  exact call_int1 pins s σ H _ us Q I r (.inl ⟨i,by rw[j.int],q.here R0 (mkInt _)⟩)
 ·cases e
theorem call_strD:CallR X (.type "str") (rC X.K M.bStr):=by
 intro pins s σ H xs us Q I r h
 refine h.el fun m st ds d st' R0 ix e q=>?_
 unfold M.bStr at e
 split at e
 ·rename_i i
  split at e
  ·rename_i hi
   cases e
   obtain⟨x,rfl,j⟩:=ix.one
   exact call_str_int pins s σ H _ us Q I r ⟨i,by rw[j.int],hi,q.here R0 (mkStr _)⟩
  ·cases e
 ·rename_i z
  cases e
  obtain⟨x,rfl,j⟩:=ix.one
  have hx:=j.str
  subst hx
  cases r with
  |cons r1 r2=>
   cases r2
   obtain⟨t,rfl⟩:=r1
   exact P.str_of_str ⟨.str z,H,I,⟨t,rfl⟩,q.here R0 (mkStr _)⟩
 ·cases e
end
end MS
end
section
namespace MS
open PySem PySem.Spec PyProof.Rows L2
inductive EntOk (prm:Params):List DictEntry→List Str→List Value→Prop
 |nil:EntOk prm [] [] []
 |cons {k:Str}{t:Tok}{u:Value}{es:List DictEntry}{ks:List Str}{us:List Value}(h:EntOk prm es ks us):EntOk prm (⟨PyData.keyHash prm k,.str k t,u⟩::es) (k::ks) (u::us)
structure FDict (prm:Params) (K:PySem.W.Frag) (a:Addr) (ks:List Str) (ds:List M.D):Prop where
 ex:∃ (us:List Value) (vs:List V) (es:Array DictEntry) (ep:Nat),K.lookup a=some { cls:=.type "dict",data:=.dict es ep }∧EntOk prm es.toList ks us∧Vals vs us∧∀ m H,IsDs K m H ds vs
 nd:ks.Nodup
 ne:(a==sysModules)=false
noncomputable def kzip{α:Type}(ks:List Str)(us:List α):List (Key×α):=(ks.map fun k=>(Sum.inr k:Key)).zip us
theorem ent_keys{P:Program}{w:World}:∀ {es:List DictEntry}{ks:List Str}{us:List Value},EntOk w.params es ks us→(∀ e∈es,∃ k,(mixKind P w).is k e.key=true∧e.hash=(mixKind P w).hash k)∧PySem.Pairs (mixKind P w) es (kzip ks us)∧(kzip ks us).map (·.1)=ks.map fun k=>(Sum.inr k:Key)
 |_,_,_,.nil=>⟨(fun e h=>nomatch h),.nil,rfl⟩
 |_,_,_,.cons (k:=k) (t:=t) (u:=u) h=>by
  obtain⟨h1,h2,h3⟩:=ent_keys (P:=P) h
  refine⟨fun e he=>?_,?_,?_⟩
  ·rcases List.mem_cons.mp he with q|q
   ·subst q
    exact⟨.inr k,mixKind_str P w k t,rfl⟩
   ·exact h1 e q
  ·exact .cons (mixKind_str P w k t) rfl h2
  ·exact congrArg (List.cons (Sum.inr k:Key)) h3
theorem fd_dict{X:Cx}{pins:List (Addr×Obj)}{σ:L2.St}{H:Hp}{s:Shared}{a:Addr}{ks:List Str}{ds:List M.D}(I:Inv X pins σ H s)(h:FDict X.w.params X.K a ks ds):
  ∃ (us:List Value) (vs:List V),s.heap.DictOf (mixKind X.prog X.w) a (kzip ks us)∧Vals vs us∧(∀ m H,IsDs X.K m H ds vs)∧ks.length=us.length:=by
 obtain⟨us,vs,es,ep,e1,e2,e3,e4⟩:=h.ex
 obtain⟨h1,h2,h3⟩:=ent_keys (P:=X.prog) (w:=X.w) e2
 refine⟨us,vs,⟨_,es,ep,I.kIn a _ e1,⟨rfl,rfl,rfl⟩,rfl,fun e he=>h1 e (by simpa using he),h2,?_⟩,e3,e4,?_⟩
 ·rw[h3]
  exact(List.pairwise_map.mpr (h.nd.imp fun hne hq=>hne (Sum.inr.inj hq)))
 ·have:∀ {es:List DictEntry}{ks:List Str}{us:List Value},EntOk X.w.params es ks us→ks.length=us.length:=by
   intro es ks us q
   induction q with
   |nil=>rfl
   |cons _ ih=>rw[List.length_cons,List.length_cons,ih]
  exact this e2
theorem kz_at{α:Type}(z:Str):∀ (ks:List Str) (us:List α),((kzip ks us).find? fun p=>decide (p.1=Sum.inr z)).map (·.2)=((ks.zip us).find? fun q=>q.1==z).map (·.2)
 |[],us=>rfl
 |k::ks,[]=>rfl
 |k::ks,u::us=>by
  have ih:=kz_at z ks us
  show((((Sum.inr k:Key),u)::kzip ks us).find? fun p=>decide (p.1=Sum.inr z)).map (·.2)=(((k,u)::ks.zip us).find? fun q=>q.1==z).map (·.2)
  rw[List.find?_cons,List.find?_cons]
  by_cases h:k=z
  ·have h1:decide ((Sum.inr k:Key)=Sum.inr z)=true:=by rw[h]; simp
   have h2:(k==z)=true:=by rw[h]; simp
   simp only[h1,h2]
   rfl
  ·have h1:decide ((Sum.inr k:Key)=Sum.inr z)=false:=decide_eq_false fun q=>h (Sum.inr.inj q)
   have h2:(k==z)=false:=by simpa using h
   simp only[h1,h2]
   exact ih
theorem gz_get{K:PySem.W.Frag}(z:Str):∀ {ks:List Str}{ds:List M.D}{vs:List V}{us:List Value},(∀ m H,IsDs K m H ds vs)→Vals vs us→ks.length=us.length→
  (((ks.zip ds).find? fun q=>q.1==z)=none∧((ks.zip us).find? fun q=>q.1==z)=none∧ks.contains z=false)∨∃ k d v u,((ks.zip ds).find? fun q=>q.1==z)=some (k,d)∧((ks.zip us).find? fun q=>q.1==z)=some (k,u)∧(∀ m H,MS.IsD K m H d v)∧RelV v u∧ks.contains z=true
 |[],ds,vs,us,i,r,h=>.inl ⟨rfl,rfl,rfl⟩
 |k::ks,[],vs,us,i,r,h=>by
  rw[(i [] fun _=>none).nil]at r
  cases r
  cases h
 |k::ks,d::ds,vs,us,i,r,h=>by
  obtain⟨v,vr,e,_,_⟩:=(i [] fun _=>none).cons
  subst e
  have i1:∀ m H,MS.IsD K m H d v:=fun m H=>by
   obtain⟨v',vr',e,q,_⟩:=(i m H).cons
   cases e
   exact q
  have i2:∀ m H,IsDs K m H ds vr:=fun m H=>by
   obtain⟨v',vr',e,_,q⟩:=(i m H).cons
   cases e
   exact q
  cases r with
  |cons r1 r2=>
   rename_i u us
   by_cases hk:k=z
   ·subst hk
    refine .inr ⟨k,d,v,u,by simp,by simp,i1,r1,by simp⟩
   ·have h2:(k==z)=false:=by simpa using hk
    have h3:(z==k)=false:=by simpa using Ne.symm hk
    have ih:=gz_get z (ks:=ks) i2 r2 (by simpa using h)
    rw[List.zip_cons_cons,List.zip_cons_cons,List.find?_cons,List.find?_cons,List.contains_cons]
    simp only[h2,h3,Bool.false_or]
    exact ih
section
variable {X:Cx}{b:Expr}{tb:TE}{pos p0:Pos}{x:Str}
theorem pe_gidx{a:Addr}{ks:List Str}{ds:List M.D}(hg:Gl X x)(hm:X.mg x=some (.ref a))(hF:FDict X.w.params X.K a ks ds)(hd:(x==("__debug__" : Str))=false)(hb:PE X b tb)(hs:NoSl b):
  PE X (.Subscript (.Name x p0) b pos) (fun σ H Q=>tb σ H fun y H2=>∃ z d,y=.str z∧(∃ k,((ks.zip ds).find? fun q=>q.1==z)=some (k,d))∧∀ v,(∀ m,MS.IsD X.K m H2 d v)→Q v H2):=by
 intro pins s σ H Q I h
 refine subD_of PySem.F.slot_dict_getitem.lookup hs (thn (pe_glob hg hm (show RelV (.ref a) (.ref a) from rfl) hd pins s σ H (fun x H1=>x=.ref a∧tb σ H1 _) I ⟨rfl,h⟩) fun u s1 ⟨x',H1,I1,rx,ex,q1⟩=>?_)
 subst ex
 cases rx
 refine thn (hb pins s1 σ H1 _ I1 q1) fun iv s2 ⟨y,H2,I2,ry,z,d,ey,⟨k,ek⟩,q2⟩=>?_
 subst ey
 obtain⟨us,vs,dd,rv,hI,hl⟩:=fd_dict I2 hF
 refine⟨dd.typeIs,?_⟩
 rcases gz_get z hI rv hl with⟨n1,_,_⟩|⟨k',d',v',u',f1,f2,f3,f4,_⟩
 ·rw[n1]at ek; cases ek
 ·rw[f1]at ek
  cases ek
  have hw:valueAt (kzip ks us) (Sum.inr z)=some u':=by
   unfold valueAt
   rw[kz_at,f2]
   rfl
  exact wpAny_getItem_of (kV_is (k:=.inr z) ry) dd.mapOf hw ⟨v',H2,I2.tok _,f4,q2 v' fun m=>f3 m H2⟩
theorem gd_has{X:Cx}{pins:List (Addr×Obj)}{σ:L2.St}{H:Hp}{s:Shared}{a:Addr}{ks:List Str}{ds:List M.D}(I:Inv X pins σ H s)(hF:FDict X.w.params X.K a ks ds)(z:Str):
  ∃ us,s.heap.DictOf (mixKind X.prog X.w) a (kzip ks us)∧(valueAt (kzip ks us) (Sum.inr z)).isSome=ks.contains z:=by
 obtain⟨us,vs,dd,rv,hI,hl⟩:=fd_dict I hF
 refine⟨us,dd,?_⟩
 unfold valueAt
 rw[kz_at]
 rcases gz_get z hI rv hl with⟨_,n2,n3⟩|⟨k',d',v',u',f1,f2,f3,f4,f5⟩
 ·rw[n2,n3]; rfl
 ·rw[f2,f5]; rfl
theorem pc_gin{a:Addr}{ks:List Str}{ds:List M.D}(neg:Bool)(hg:Gl X x)(hm:X.mg x=some (.ref a))(hF:FDict X.w.params X.K a ks ds)(hd:(x==("__debug__" : Str))=false)(hb:PE X b tb):
  PC X (if neg then .NotIn else .In) b (.Name x p0) (fun σ H Q=>tb σ H fun y H2=>∃ z,y=.str z∧Q (.bl (ks.contains z != neg)) H2):=by
 intro pins s σ H Q I h
 refine thn (hb pins s σ H _ I h) fun iv s1 ⟨y,H1,I1,ry,z,ey,q1⟩=>?_
 subst ey
 refine thn (pe_glob hg hm (show RelV (.ref a) (.ref a) from rfl) hd pins s1 σ H1 (fun x H2=>x=.ref a∧Q (.bl (ks.contains z != neg)) H2) I1 ⟨rfl,q1⟩) fun u s2 ⟨x',H2,I2,rx,ex,q2⟩=>?_
 subst ex
 cases rx
 obtain⟨us,dd,hs⟩:=gd_has I2 hF z
 cases neg with
 |false=>
  refine wpAny_in_of (kV_is (k:=.inr z) ry) hF.ne dd.mapOf ?_
  rw[hs]
  refine⟨.bl _,H2,I2.tok _,rfl,?_⟩
  simpa using q2
 |true=>
  refine wpAny_notIn_of (kV_is (k:=.inr z) ry) hF.ne dd.mapOf ?_
  rw[hs]
  refine⟨.bl _,H2,I2.tok _,rfl,?_⟩
  simpa using q2
open M (D Cell Store Sl)
theorem pc_ginD{a:Addr}{ks:List Str}{ds:List D}{fb:Sl→Store→Option (D×Store)}(neg:Bool)(hg:Gl X x)(hm:X.mg x=some (.ref a))(hF:FDict X.w.params X.K a ks ds)(hd:(x==("__debug__" : Str))=false)(hb:PE X b (tD X.K fb)):
  PC X (if neg then .NotIn else .In) b (.Name x p0) (tD X.K fun τ st=>(fb τ st).bind fun p=>match p.1 with
   |.str z=>some (.bl (ks.contains z != neg),p.2)
   |_=>none):=by
 intro pins s σ H Q I h
 refine pc_gin neg hg hm hF hd hb pins s σ H Q I ?_
 refine h.el fun m st τ d st' R0 S0 e q=>?_
 obtain⟨d1,s1,e1,e⟩:=bindD e
 refine⟨m,st,τ,d1,s1,R0,S0,e1,fun y m1 H1 b1 t1 R1 i1=>?_⟩
 cases d1 with
 |str z=>
  cases e
  exact⟨z,i1.str,q _ m1 H1 b1 t1 R1 (mkBl _)⟩
 |_=>cases e
theorem pe_gidxD{a:Addr}{ks:List Str}{ds:List D}{fb:Sl→Store→Option (D×Store)}(hg:Gl X x)(hm:X.mg x=some (.ref a))(hF:FDict X.w.params X.K a ks ds)(hd:(x==("__debug__" : Str))=false)(hb:PE X b (tD X.K fb))(hs:NoSl b):
  PE X (.Subscript (.Name x p0) b pos) (tD X.K fun τ st=>(fb τ st).bind fun p=>match p.1 with
   |.str z=>((ks.zip ds).find? fun q=>q.1==z).map fun q=>(q.2,p.2)
   |_=>none):=by
 refine(pe_gidx hg hm hF hd hb hs).imp fun σ H Q h=>?_
 refine h.el fun m st τ d st' R0 S0 e q=>?_
 obtain⟨d1,s1,e1,e⟩:=bindD e
 refine⟨m,st,τ,d1,s1,R0,S0,e1,fun y m1 H1 b1 t1 R1 i1=>?_⟩
 cases d1 with
 |str z=>
  obtain⟨w,e2,e3⟩:=mapD e
  cases e3
  exact⟨z,w.2,i1.str,⟨w.1,e2⟩,fun v hv=>q _ m1 H1 b1 t1 R1 (hv m1)⟩
 |_=>cases e
theorem dget_of{K:PySem.W.Frag}{m:List Addr}{H:Hp}{kvs:List (D×D)}{xs:List (Key×V)}{kd:D}{y:V}{a:Addr}(hk:M.isKey kd=true)(hkv:IsKV K m H kvs xs)(hH:H a=some (.dK xs))(iy:MS.IsD K m H kd y):
  ∃ o,DGet H a y o∧((M.dget kvs kd=none∧o=none)∨∃ d v,M.dget kvs kd=some d∧o=some v∧MS.IsD K m H d v):=by
 obtain⟨k,hk1⟩:=key_of hk
 have hy:=key_V hk1 iy
 subst hy
 refine⟨valV xs k,DGet.k hH,?_⟩
 rcases hkv.get hk1 with⟨h1,h2⟩|⟨d,v,h1,h2,h3⟩
 ·exact .inl ⟨h1,h2⟩
 ·exact .inr ⟨d,v,h1,h2,h3⟩
theorem pc_dinD{a:Expr}{fa fb:Sl→Store→Option (D×Store)}(hu:X.A.units+1<cLine)(neg:Bool)(ha:PE X a (tD X.K fa))(hb:PE X b (tD X.K fb)):
  PC X (if neg then .NotIn else .In) a b (tD X.K fun τ st=>(fa τ st).bind fun p=>(fb τ p.2).bind fun q=>match q.1 with
   |.loc l=>(M.dicAt q.2 l).bind fun kvs=>if M.isKey p.1 then some (.bl ((M.dget kvs p.1).isSome != neg),q.2) else none
   |_=>none):=by
 have key:∀ {σ:L2.St}{H:Hp}{Q:VK},tD X.K (fun τ st=>(fa τ st).bind fun p=>(fb τ p.2).bind fun q=>match q.1 with
   |.loc l=>(M.dicAt q.2 l).bind fun kvs=>if M.isKey p.1 then some (.bl ((M.dget kvs p.1).isSome != neg),q.2) else none
   |_=>none) σ H Q→tD X.K fa σ H fun y H1=>tD X.K fb σ H1 fun x H2=>∃ a o,x=.ref a∧DGet H2 a y o∧Q (.bl (o.isSome != neg)) H2:=by
  intro σ H Q h
  refine h.el fun m st τ d st' R0 S0 e q=>?_
  obtain⟨d1,s1,e1,e⟩:=bindD e
  obtain⟨d2,s2,e2,e⟩:=bindD e
  refine⟨m,st,τ,d1,s1,R0,S0,e1,fun y m1 H1 b1 t1 R1 i1=>⟨m1,s1,τ,d2,s2,R1,S0.mono b1 t1,e2,fun z m2 H2 b2 t2 R2 i2=>?_⟩⟩
  cases d2 with
  |loc l=>
   obtain⟨kvs,e3,e⟩:=bindO e
   split at e
   ·rename_i hk
    cases e
    obtain⟨a',xs,_,rfl,hH,hkv,_⟩:=R2.dict e3 i2
    obtain⟨o,g,hg⟩:=dget_of hk hkv hH (isD_mono b2 t2 _ _ i1)
    refine⟨a',o,rfl,g,?_⟩
    have e4:o.isSome=(M.dget kvs d1).isSome:=by
     rcases hg with⟨h1,h2⟩|⟨d,v,h1,h2,_⟩
     ·rw[h1,h2]; rfl
     ·rw[h1,h2]; rfl
    rw[e4]
    exact q _ m2 H2 (b1.trans b2) (t1.trans t2) R2 (mkBl _)
   ·cases e
  |_=>cases e
 cases neg with
 |false=>
  intro pins s σ H Q I h
  refine pc_din hu ha hb pins s σ H Q I ?_
  have:=key h
  simpa only[tDIn,Bool.bne_false] using this
 |true=>
  intro pins s σ H Q I h
  refine pc_dnotin hu ha hb pins s σ H Q I ?_
  have:=key h
  simpa only[tDNotIn,Bool.bne_true] using this
theorem pe_didxD{a:Expr}{fa fb:Sl→Store→Option (D×Store)}(hu:X.A.units+1<cLine)(ha:PE X a (tD X.K fa))(hb:PE X b (tD X.K fb))(hs:NoSl b):
  PE X (.Subscript a b pos) (tD X.K fun τ st=>(fa τ st).bind fun p=>(fb τ p.2).bind fun q=>match p.1 with
   |.loc l=>(M.dicAt q.2 l).bind fun kvs=>if M.isKey q.1 then(M.dget kvs q.1).map fun d=>(d,q.2) else none
   |_=>none):=by
 refine(pe_dget hu ha hb hs).imp fun σ H Q h=>?_
 refine h.el fun m st τ d st' R0 S0 e q=>?_
 obtain⟨d1,s1,e1,e⟩:=bindD e
 obtain⟨d2,s2,e2,e⟩:=bindD e
 refine⟨m,st,τ,d1,s1,R0,S0,e1,fun y m1 H1 b1 t1 R1 i1=>⟨m1,s1,τ,d2,s2,R1,S0.mono b1 t1,e2,fun z m2 H2 b2 t2 R2 i2=>?_⟩⟩
 cases d1 with
 |loc l=>
  obtain⟨kvs,e3,e⟩:=bindO e
  split at e
  ·rename_i hk
   obtain⟨w,e4,e5⟩:=mapD e
   cases e5
   obtain⟨a',xs,_,rfl,hH,hkv,_⟩:=R2.dict e3 (isD_mono b2 t2 _ _ i1)
   obtain⟨o,g,hg⟩:=dget_of hk hkv hH i2
   rcases hg with⟨h1,h2⟩|⟨d,v,h1,h2,h3⟩
   ·rw[h1]at e4; cases e4
   ·rw[h1]at e4
    cases e4
    subst h2
    exact⟨a',v,rfl,g,q _ m2 H2 (b1.trans b2) (t1.trans t2) R2 h3⟩
  ·cases e
 |_=>cases e
theorem pe_dgtD{a:Expr}{apos cpos:Pos}{fa fb:Sl→Store→Option (D×Store)}(hu:X.A.units+1<cLine)(ha:PE X a (tD X.K fa))(hb:PE X b (tD X.K fb))(hm:M1 X a "get" apos b cpos):
  PE X (.Call (.Attribute a "get" apos) [b] [] cpos) (tD X.K fun τ st=>(fa τ st).bind fun p=>match p.1 with
   |.loc l=>(M.dicAt p.2 l).bind fun _=>(fb τ p.2).bind fun q=>(M.dicAt q.2 l).bind fun kvs=>if M.isKey q.1 then some ((M.dget kvs q.1).getD .non,q.2) else none
   |_=>none):=by
 refine(pe_dget1 hu ha hb hm).imp fun σ H Q h=>?_
 refine h.el fun m st τ d st' R0 S0 e q=>?_
 obtain⟨d1,s1,e1,e⟩:=bindD e
 refine⟨m,st,τ,d1,s1,R0,S0,e1,fun y m1 H1 b1 t1 R1 i1=>?_⟩
 cases d1 with
 |loc l=>
  obtain⟨kv0,e0,e⟩:=bindO e
  obtain⟨d2,s2,e2,e⟩:=bindD e
  obtain⟨kvs,e3,e⟩:=bindO e
  split at e
  ·rename_i hk
   cases e
   obtain⟨a0,xs0,ha0,rfl,hH0,_,_⟩:=R1.dict e0 i1
   refine⟨a0,rfl,.inl ⟨_,.inl hH0⟩,m1,s1,τ,d2,s2,R1,S0.mono b1 t1,e2,fun z m2 H2 b2 t2 R2 i2=>?_⟩
   obtain⟨a',xs,_,ea,hH,hkv,_⟩:=R2.dict e3 (isD_mono b2 t2 _ _ i1)
   cases ea
   obtain⟨o,g,hg⟩:=dget_of hk hkv hH i2
   refine⟨o,g,?_⟩
   rcases hg with⟨h1,h2⟩|⟨d,v,h1,h2,h3⟩
   ·rw[h1]at q
    subst h2
    exact q _ m2 H2 (b1.trans b2) (t1.trans t2) R2 mkNon
   ·rw[h1]at q
    subst h2
    exact q _ m2 H2 (b1.trans b2) (t1.trans t2) R2 h3
  ·cases e
 |_=>cases e
end
end MS
end
section
namespace MS
open PySem PySem.Spec PyProof.Rows L2
section
variable {prog:Program}{w:World}{A:Around}{E:Value→Shared→Prop}{s:Shared}{x:Str}{t:Tok}{Q:Value→Shared→Prop}
end
section
variable {X:Cx}
inductive PEs (X:Cx):List Expr→List TE→Prop
 |nil:PEs X [] []
 |cons {p:Expr}{ps:List Expr}{t:TE}{ts:List TE}(h:PE X p t) (r:PEs X ps ts):PEs X (p::ps) (t::ts)
open M (D Cell Store Sl)
end
end MS
end
section
namespace MS
open PySem PySem.Spec PyProof.Rows L2
open M (D Cell Store Sl)
section
variable {K:PySem.W.Frag}{m m1:List Addr}{H H1:Hp}
mutual
theorem isD_nl:∀ (d:D) (v:V),M.noLoc d=true→MS.IsD K m1 H1 d v→MS.IsD K m H1 d v
 |.non,_,_,h=>by rw[h.non]; exact mkNon
 |.bl _,_,_,h=>by rw[h.bl]; exact mkBl _
 |.int _,_,_,h=>by rw[h.int]; exact mkInt _
 |.str _,_,_,h=>by rw[h.str]; exact mkStr _
 |.tup ds,_,n,h=>by
  obtain⟨a,xs,rfl,q,r⟩:=h.tup
  unfold M.noLoc at n
  exact mkTup q (isDs_nl ds xs n r)
 |.lst ds,_,n,h=>by
  obtain⟨a,xs,rfl,q,r⟩:=h.lst
  unfold M.noLoc at n
  exact mkLst q (isDs_nl ds xs n r)
 |.loc l,_,n,h=>by unfold M.noLoc at n; cases n
theorem isDs_nl:∀ (ds:List D) (xs:List V),M.noLocs ds=true→IsDs K m1 H1 ds xs→IsDs K m H1 ds xs
 |[],_,_,h=>by rw[h.nil]; exact mkNil
 |d::ds,_,n,h=>by
  obtain⟨x,r,rfl,q,t⟩:=h.cons
  unfold M.noLocs at n
  rw[Bool.and_eq_true]at n
  exact mkCons (isD_nl d x n.1 q) (isDs_nl ds r n.2 t)
end
mutual
theorem isD_back(s:Sub m m1):∀ (d:D) (v v1:V),MS.IsD K m H d v→MS.IsD K m1 H1 d v1→MS.IsD K m H1 d v1
 |.non,_,_,_,h=>by rw[h.non]; exact mkNon
 |.bl _,_,_,_,h=>by rw[h.bl]; exact mkBl _
 |.int _,_,_,_,h=>by rw[h.int]; exact mkInt _
 |.str _,_,_,_,h=>by rw[h.str]; exact mkStr _
 |.tup ds,_,_,h0,h=>by
  obtain⟨a,xs,rfl,q,r⟩:=h.tup
  obtain⟨a0,xs0,_,_,r0⟩:=h0.tup
  exact mkTup q (isDs_back s ds xs0 xs r0 r)
 |.lst ds,_,_,h0,h=>by
  obtain⟨a,xs,rfl,q,r⟩:=h.lst
  obtain⟨a0,xs0,_,_,r0⟩:=h0.lst
  exact mkLst q (isDs_back s ds xs0 xs r0 r)
 |.loc l,_,_,h0,h=>by
  obtain⟨a0,e0,_⟩:=h0.loc
  obtain⟨a,e,rfl⟩:=h.loc
  have:=s l a0 e0
  rw[e]at this
  cases this
  exact mkLoc e0
theorem isDs_back(s:Sub m m1):∀ (ds:List D) (xs xs1:List V),IsDs K m H ds xs→IsDs K m1 H1 ds xs1→IsDs K m H1 ds xs1
 |[],_,_,_,h=>by rw[h.nil]; exact mkNil
 |d::ds,_,_,h0,h=>by
  obtain⟨x,r,rfl,q,t⟩:=h.cons
  obtain⟨x0,r0,rfl,q0,t0⟩:=h0.cons
  exact mkCons (isD_back s d x0 x q0 q) (isDs_back s ds r0 r t0 t)
end
theorem isKV_back(s:Sub m m1):∀ (kvs:List (D×D)) (xs xs1:List (Key×V)),IsKV K m H kvs xs→IsKV K m1 H1 kvs xs1→IsKV K m H1 kvs xs1
 |[],_,_,_,h=>h
 |p::r,_,_,⟨k0,v0,xr0,e0,hk0,hv0,hr0⟩,⟨k,v,xr,e,hk,hv,hr⟩=>⟨k,v,xr,e,hk,isD_back s _ _ _ hv0 hv,isKV_back s r _ _ hr0 hr⟩
theorem isC_back(s:Sub m m1){c:Cell}{a:Addr}(h0:IsC K m H c a)(h:IsC K m1 H1 c a):IsC K m H1 c a:=by
 cases c with
 |lst w ds=>
  cases w with
  |true=>
   obtain⟨xs,e,q⟩:=h
   obtain⟨xs0,_,q0⟩:=h0
   exact⟨xs,e,isDs_back s _ _ _ q0 q⟩
  |false=>
   obtain⟨xs,e,q⟩:=h
   obtain⟨xs0,_,q0⟩:=h0
   exact⟨xs,e,isDs_back s _ _ _ q0 q⟩
 |dic kvs=>
  obtain⟨xs,e,q⟩:=h
  obtain⟨xs0,_,q0⟩:=h0
  exact⟨xs,e,isKV_back s _ _ _ q0 q⟩
theorem pre_at{st st0:Store}(h:st0.take st.length=st){l:Nat}{c:Cell}(e:st[l]?=some c):st0[l]?=some c:=by
 have hl:=(List.getElem?_eq_some_iff.mp e).1
 rw[← h,List.getElem?_take,if_pos hl]at e
 exact e
theorem Rel.cutBack{st st0:Store}(R0:Rel K m st H)(R1:Rel K m1 st0 H1)(s:Sub m m1)(h:st0.take st.length=st){H2:Hp}(t:Tr H1 H2)(hw:∀ (l:Nat) (c:Cell) (a:Addr),st[l]?=some c→m[l]?=some a→Wr c=true→H2 a=H1 a):Rel K m st H2:=
 ⟨R0.len,R0.nd,fun l c a e ea=>isC_mono (Sub.refl m) t (isC_back s (R0.cell l c a e ea) (R1.cell l c a (pre_at h e) (s l a ea))) fun w=>hw l c a e ea w⟩
end
section
variable {X:Cx}
theorem inv_freeze{pins:List (Addr×Obj)}{s:Shared}{σ:L2.St}{H:Hp}{a:Addr}{xs:List V}(I:Inv X pins σ H s)(h:H a=some (.lst xs)):∃ o,Inv X pins σ (upd H a (.frz o (.lst xs))) s:=by
 obtain⟨z,its,n,r,e⟩:=id (I.hok a _ h)
 refine⟨{ cls:=.type "list",data:=.seq its.toArray n },I.un (t':=s.toks) (h':=s.heap) ⟨fun b o q _ _ _=>q,fun b o q _ _ _=>⟨o.slots,q⟩,fun b o q hn _=>?_,fun b o q _=>⟨o,q⟩,fun b ys q=>?_,fun b o u q=>?_,fun b ps q=>⟨#[],?_⟩⟩ ?_⟩
 ·rw[upd_ne (fun z=>by subst z; rw[h]at hn; cases hn)]
  exact hn
 ·rw[upd_ne (ne_of q h (by intro z; cases z))]; exact q
 ·rw[upd_ne (ne_of q h (by intro z; cases z))]; exact q
 ·rw[upd_ne (ne_of q h (by intro z; cases z)),q]; simp
 ·intro b u q
  by_cases hb:b=a
  ·subst hb
   rw[upd_same]at q
   cases q
   exact⟨e,z,its,n,r,e⟩
  ·rw[upd_ne hb]at q
   refine(I.hok b u q).stay (fun c v _ w=>w) (fun c w=>?_) fun c ys w=>?_
   ·rw[upd_ne (ne_of w h (by intro z; cases z))]; exact w
   ·rw[upd_ne (ne_of w h (by intro z; cases z))]; exact w
theorem pe_gc{p:Expr}{f:Sl→Store→Option (D×Store)}(he:PE X p (tD X.K f)):PE X p (tD X.K fun τ st=>(f τ st).map fun q=>M.gcD st q):=by
 intro pins s σ H Q I h
 refine h.el fun m st τ d st' R0 S0 e q=>?_
 obtain⟨⟨d0,st0⟩,e1,e2⟩:=mapD e
 refine thn (he pins s σ H (fun v H1=>∃ m1,Sub m m1∧Tr H H1∧Rel X.K m1 st0 H1∧MS.IsD X.K m1 H1 d0 v) I ⟨m,st,τ,d0,st0,R0,S0,e1,fun v m1 H1 b1 t1 R1 i1=>⟨m1,b1,t1,R1,i1⟩⟩) fun v s1 ⟨x,H1,I1,r1,m1,b1,t1,R1,i1⟩=>?_
 have plain:(d0,st0)=(d,st')→EP X pins σ Q v s1:=fun z=>by
  cases z
  exact⟨x,H1,I1,r1,q x m1 H1 b1 t1 R1 i1⟩
 unfold M.gcD at e2
 split at e2
 ·rename_i hp
  split at e2
  ·rename_i hn
   cases e2
   refine⟨x,H1,I1,r1,q x m H1 (Sub.refl m) t1 (R0.cutBack R1 b1 hp (Tr.refl H1) fun _ _ _ _ _ _=>rfl) (isD_nl _ _ hn i1)⟩
  ·split at e2
   ·rename_i l hd
    simp only at hd
    split at e2
    ·rename_i hl
     split at e2
     ·rename_i ds hc
      split at e2
      ·rename_i hn
       cases e2
       subst hd
       obtain⟨a,ha,rfl⟩:=i1.loc
       obtain⟨xs,hx,ix⟩:=R1.cell l _ a hc ha
       obtain⟨o,I2⟩:=inv_freeze I1 hx
       have t2:Tr H1 (upd H1 a (.frz o (.lst xs))):=⟨fun b zs e=>by rw[upd_ne (ne_of e hx (by intro z; cases z))]; exact e,fun b o u e=>by rw[upd_ne (ne_of e hx (by intro z; cases z))]; exact e⟩
       refine⟨.ref a,_,I2,r1,q _ m _ (Sub.refl m) (t1.trans t2) (R0.cutBack R1 b1 hp t2 fun l' c a' e ea w=>?_) ?_⟩
       ·refine upd_ne fun z=>?_
        subst z
        have hlt:=(List.getElem?_eq_some_iff.mp e).1
        have:=R1.nd l' l a' c _ (b1 l' a' ea) ha (pre_at hp e) hc w rfl
        omega
       ·exact mkLst (.inl ⟨o,upd_same⟩) (isDs_nl _ _ hn (isDs_mono (Sub.refl m1) t2 _ _ ix))
      ·exact plain e2
     ·exact plain e2
    ·exact plain e2
   ·exact plain e2
 ·exact plain e2
end
end MS
end
section
namespace MS
open PySem PySem.Spec PyProof.Rows L2
open M (D Cell Store Sl)
section
variable {X:Cx}
end
end MS
end
section
namespace ST
open PySem SetTable
noncomputable def adv(m:Nat)(p:Probe):Probe:=
 if p.more > 0 then { p with j:=p.j+1,more:=p.more - 1 } else
 { p with j:=(leap m p.i p.perturb).1,more:=runEnd m (leap m p.i p.perturb).1 - (leap m p.i p.perturb).1,i:=(leap m p.i p.perturb).1,perturb:=(leap m p.i p.perturb).2 }
noncomputable def startP(m:Nat)(h:Int):Probe:={ j:=bits h % (m+1),more:=runEnd m (bits h % (m+1)) - bits h % (m+1),i:=bits h % (m+1),perturb:=bits h,dummy:=none }
noncomputable def stp(m:Nat):Nat→Probe→Probe
 |0,p=>p
 |n+1,p=>stp m n (adv m p)
theorem stp_add(m:Nat):∀ (a b:Nat) (p:Probe),stp m (a+b) p=stp m b (stp m a p)
 |0,b,p=>by rw[Nat.zero_add]; rfl
 |a+1,b,p=>by rw[Nat.add_right_comm]; exact stp_add m a b (adv m p)
theorem stp_succ(m n:Nat)(p:Probe):stp m (n+1) p=adv m (stp m n p):=by rw[stp_add]; rfl
noncomputable def runP(m i pt:Nat)(d:Option Nat):Probe:={ j:=i,more:=runEnd m i - i,i:=i,perturb:=pt,dummy:=d }
theorem run_on(m:Nat):∀ (k:Nat) (p:Probe),p.more=k→stp m (k+1) p=runP m (leap m p.i p.perturb).1 (leap m p.i p.perturb).2 p.dummy
 |0,p,h=>by
  show adv m p=_
  unfold adv
  rw[if_neg (by omega)]; rfl
 |k+1,p,h=>by
  show stp m (k+1) (adv m p)=_
  have e:adv m p={ p with j:=p.j+1,more:=p.more - 1 }:=by unfold adv; rw[if_pos (by omega)]
  rw[e,run_on m k _ (by show p.more - 1=k; omega)]
noncomputable def lp(m:Nat):Nat→Nat×Nat→Nat×Nat
 |0,q=>q
 |n+1,q=>lp m n (leap m q.1 q.2)
theorem more_le(m i:Nat):runEnd m i - i≤9:=by unfold runEnd; split<;>omega
theorem run_many(m:Nat)(d:Option Nat):∀ (n i pt:Nat),∃ N,N≤10*n∧stp m N (runP m i pt d)=runP m (lp m n (i,pt)).1 (lp m n (i,pt)).2 d
 |0,i,pt=>⟨0,Nat.le_refl _,rfl⟩
 |n+1,i,pt=>by
  obtain⟨N,hN,e⟩:=run_many m d n (leap m i pt).1 (leap m i pt).2
  refine⟨(runP m i pt d).more+1+N,?_,?_⟩
  ·have:=more_le m i
   show runEnd m i - i+1+N≤_
   omega
  ·rw[stp_add,run_on m _ _ rfl]
   exact e
theorem lp_pt(m:Nat):∀ (n i pt:Nat),(lp m n (i,pt)).2=pt / 32 ^ n
 |0,i,pt=>by simp[lp]
 |n+1,i,pt=>by
  show(lp m n (leap m i pt)).2=_
  have:leap m i pt=((leap m i pt).1,pt / 32):=rfl
  rw[this,lp_pt m n,Nat.div_div_eq_div_mul,Nat.pow_succ,Nat.mul_comm]
theorem lp_add(m:Nat):∀ (a b:Nat) (q:Nat×Nat),lp m (a+b) q=lp m b (lp m a q)
 |0,b,q=>by rw[Nat.zero_add]; rfl
 |a+1,b,q=>by rw[Nat.add_right_comm]; exact lp_add m a b _
theorem lp_le(m:Nat):∀ (n i pt:Nat),i≤m→(lp m n (i,pt)).1≤m
 |0,i,pt,h=>h
 |n+1,i,pt,h=>by
  show(lp m n (leap m i pt)).1≤m
  exact lp_le m n _ _ (by exact Nat.le_of_lt_succ (Nat.mod_lt _ (Nat.succ_pos _)))
noncomputable def lcg(m:Nat):Nat→Nat→Nat
 |0,i=>i
 |n+1,i=>lcg m n ((i*5+1) % (m+1))
theorem lp_zero(m:Nat):∀ (n i:Nat),(lp m n (i,0)).1=lcg m n i
 |0,i=>rfl
 |n+1,i=>by
  show(lp m n (leap m i 0)).1=_
  have:leap m i 0=((i*5+1) % (m+1),0):=by simp[leap]
  rw[this,lp_zero m n]; rfl
theorem onto7:∀ i,i<8→∀ e,e<8→∃ r,r<8∧lcg 7 r i=e:=by decide +kernel
theorem onto31:∀ i,i<32→∀ e,e<32→∃ r,r<32∧lcg 31 r i=e:=by decide +kernel
theorem onto{m:Nat}(hm:m=7∨m=31){i e:Nat}(hi:i≤m)(he:e≤m):∃ r,r≤m∧lcg m r i=e:=by
 rcases hm with rfl|rfl
 ·obtain⟨r,h,q⟩:=onto7 i (by omega) e (by omega); exact⟨r,by omega,q⟩
 ·obtain⟨r,h,q⟩:=onto31 i (by omega) e (by omega); exact⟨r,by omega,q⟩
theorem run_hits{m:Nat}(hm:m=7∨m=31){i pt e:Nat}(d:Option Nat)(hi:i≤m)(hp:pt<2 ^ 64)(he:e≤m):∃ n N,n≤m+13∧N≤10*n∧stp m N (runP m i pt d)=runP m e (lp m n (i,pt)).2 d∧(lp m n (i,pt)).1=e:=by
 have hz:(lp m 13 (i,pt)).2=0:=by
  rw[lp_pt]; exact Nat.div_eq_of_lt (Nat.lt_of_lt_of_le hp (by decide))
 obtain⟨r,hr,er⟩:=onto hm (lp_le m 13 i pt hi) he
 have e1:(lp m (13+r) (i,pt)).1=e:=by
  rw[lp_add]
  have:lp m 13 (i,pt)=((lp m 13 (i,pt)).1,0):=by rw[← hz]
  rw[this,lp_zero]; exact er
 obtain⟨N,hN,eN⟩:=run_many m d (13+r) i pt
 rw[e1]at eN
 exact⟨13+r,N,by omega,hN,eN,e1⟩
structure Okp (m:Nat) (p:Probe):Prop where
 i:p.i≤m
 pt:p.perturb<2 ^ 64
 more:p.more≤9
 dm:p.dummy=none
theorem Okp.start{m:Nat}(h:Int):Okp m (startP m h):=by
 refine⟨Nat.le_of_lt_succ (Nat.mod_lt _ (Nat.succ_pos _)),?_,more_le _ _,rfl⟩
 show bits h<2 ^ 64
 unfold bits
 omega
theorem Okp.next{m:Nat}{p:Probe}(h:Okp m p):Okp m (adv m p):=by
 unfold adv
 split
 ·exact⟨h.i,h.pt,by have:=h.more; show p.more - 1≤9; omega,h.dm⟩
 ·refine⟨by show(leap m p.i p.perturb).1≤m; unfold leap; exact Nat.le_of_lt_succ (Nat.mod_lt _ (Nat.succ_pos _)),?_,more_le _ _,h.dm⟩
  show p.perturb / 32<2 ^ 64
  exact Nat.lt_of_le_of_lt (Nat.div_le_self _ _) h.pt
theorem Okp.stp{m:Nat}:∀ (n:Nat){p:Probe},Okp m p→Okp m (stp m n p)
 |0,_,h=>h
 |n+1,_,h=>Okp.stp n h.next
theorem hits{m:Nat}(hm:m=7∨m=31){p:Probe}(h:Okp m p){e:Nat}(he:e≤m):∃ N,N<10*turns m∧(stp m N p).j=e:=by
 have h1:=(h.stp (p.more+1))
 rw[run_on m _ p rfl]at h1
 obtain⟨n,N,hn,hN,e1,_⟩:=run_hits hm p.dummy h1.i h1.pt he
 refine⟨p.more+1+N,?_,?_⟩
 ·have:=h.more
  unfold turns; omega
 ·rw[stp_add,run_on m _ p rfl]
  exact congrArg Probe.j e1
end ST
end
section
namespace ST
open PySem SetTable
def Up(xs:Array Nat):Prop:=∀ (i k a b:Nat),i<k→xs[i]?=some a→xs[k]?=some b→a<b
theorem below_go{xs:Array Nat}{j:Nat}(hs:Up xs):∀ (fuel lo hi:Nat),hi≤xs.size→lo≤hi→hi - lo≤fuel→(∀ (i a:Nat),i<lo→xs[i]?=some a→a<j)→(∀ (i a:Nat),hi≤i→xs[i]?=some a→j≤a)→
  (∀ (i a:Nat),i<below.go xs j fuel lo hi→xs[i]?=some a→a<j)∧(∀ (i a:Nat),below.go xs j fuel lo hi≤i→xs[i]?=some a→j≤a)∧below.go xs j fuel lo hi≤xs.size
 |0,lo,hi,h1,h2,h3,h4,h5=>by
  have:lo=hi:=by omega
  subst this
  exact⟨h4,h5,h1⟩
 |fuel+1,lo,hi,h1,h2,h3,h4,h5=>by
  unfold below.go
  by_cases hlt:lo<hi
  ·rw[if_pos hlt]
   have hm:(lo+hi) / 2<xs.size:=by omega
   have e:xs[(lo+hi) / 2]?=some xs[(lo+hi) / 2]:=Array.getElem?_eq_getElem hm
   have eg:xs.getD ((lo+hi) / 2) j=xs[(lo+hi) / 2]:=by rw[Array.getD_eq_getD_getElem?,e]; rfl
   simp only[eg]
   split
   ·rename_i hc
    refine below_go hs fuel _ _ h1 (by omega) (by omega) (fun i a hi' ha=>?_) h5
    rcases Nat.lt_or_ge i ((lo+hi) / 2) with h|h
    ·exact Nat.lt_trans (hs i _ a _ h ha e) hc
    ·have:i=(lo+hi) / 2:=by omega
     subst this
     rw[e]at ha; cases ha; exact hc
   ·rename_i hc
    refine below_go hs fuel _ _ (by omega) (by omega) (by omega) h4 (fun i a hi' ha=>?_)
    rcases Nat.lt_or_ge ((lo+hi) / 2) i with h|h
    ·have:=hs _ i _ a h e ha; omega
    ·have:i=(lo+hi) / 2:=by omega
     subst this
     rw[e]at ha; cases ha; omega
  ·rw[if_neg hlt]
   have:lo=hi:=by omega
   subst this
   exact⟨h4,h5,h1⟩
theorem below_spec{xs:Array Nat}{j:Nat}(hs:Up xs):(∀ (i a:Nat),i<below xs j→xs[i]?=some a→a<j)∧(∀ (i a:Nat),below xs j≤i→xs[i]?=some a→j≤a)∧below xs j≤xs.size:=
 below_go hs xs.size 0 xs.size (Nat.le_refl _) (Nat.zero_le _) (by omega) (fun i a h=>by omega) fun i a h e=>by
  have:=(Array.getElem?_eq_some_iff.mp e).1; omega
theorem below_at{xs:Array Nat}{i j:Nat}(hs:Up xs)(h:xs[i]?=some j):below xs j=i:=by
 obtain⟨b1,b2,b3⟩:=below_spec (j:=j) hs
 rcases Nat.lt_trichotomy (below xs j) i with h1|h1|h1
 ·have hb:below xs j<xs.size:=Nat.lt_trans h1 (Array.getElem?_eq_some_iff.mp h).1
  have e:xs[below xs j]?=some xs[below xs j]:=Array.getElem?_eq_getElem hb
  have:=b2 _ _ (Nat.le_refl _) e
  have:=hs _ _ _ _ h1 e h
  omega
 ·exact h1
 ·have:=b1 _ _ h1 h; omega
structure Tb (t:SetTable):Prop where
 mask:t.mask=7∨t.mask=31
 dum:t.dummies=#[]
 up:Up t.place
 le:∀ (i j:Nat),t.place[i]?=some j→j≤t.mask
 few:t.place.size≤t.mask
def Occ(t:SetTable)(j:Nat):Prop:=∃ i:Nat,t.place[i]?=some j
theorem slot_live{t:SetTable}(T:Tb t){i j:Nat}(h:t.place[i]?=some j):t.slot j=.live i:=by
 unfold slot
 simp only[below_at T.up h,h,beq_self_eq_true,if_true]
theorem slot_empty{t:SetTable}(T:Tb t){j:Nat}(h:¬ Occ t j):t.slot j=.empty:=by
 unfold slot
 have:(t.place[below t.place j]?==some j)=false:=by
  cases e:t.place[below t.place j]?==some j with
  |false=>rfl
  |true=>exact absurd ⟨_,beq_iff_eq.mp e⟩ h
 have hd:has t.dummies j=false:=by rw[T.dum]; unfold has; simp
 simp[this,hd]
theorem free_place{m:Nat}:∀ (l:List Nat) (lo:Nat),l.Pairwise (· < ·)→(∀ a∈l,lo≤a)→(∀ e,lo≤e→e≤m→e∈l)→lo≤m+1→m+1≤lo+l.length
 |[],lo,_,_,h3,h4=>by
  rcases Nat.lt_or_ge m lo with h|h
  ·simp; omega
  ·exact absurd (h3 lo (Nat.le_refl _) h) (by simp)
 |a::l,lo,h1,h2,h3,h4=>by
  rcases Nat.lt_or_ge m lo with h|h
  ·omega
  ·obtain⟨p1,p2⟩:=List.pairwise_cons.mp h1
   have ha:a=lo:=by
    rcases List.mem_cons.mp (h3 lo (Nat.le_refl _) h) with e|e
    ·exact e.symm
    ·have:=p1 lo e
     have:=h2 a List.mem_cons_self
     omega
   subst ha
   have:=free_place l (a+1) p2 (fun b hb=>p1 b hb) (fun e e1 e2=>by
    rcases List.mem_cons.mp (h3 e (by omega) e2) with q|q
    ·omega
    ·exact q) (by omega)
   simp only[List.length_cons]
   omega
theorem Up.pairwise{xs:Array Nat}(h:Up xs):xs.toList.Pairwise (· < ·):=by
 rw[List.pairwise_iff_getElem]
 intro i j hi hj hij
 exact h i j _ _ hij (by rw[← Array.getElem?_toList,List.getElem?_eq_getElem hi]) (by rw[← Array.getElem?_toList,List.getElem?_eq_getElem hj])
theorem some_free{t:SetTable}(T:Tb t):∃ e,e≤t.mask∧¬ Occ t e:=by
 apply Classical.byContradiction
 intro hn
 have all:∀ e,e≤t.mask→Occ t e:=fun e he=>Classical.byContradiction fun hc=>hn ⟨e,he,hc⟩
 have:=free_place (m:=t.mask) t.place.toList 0 T.up.pairwise (fun a _=>Nat.zero_le _) (fun e _ he=>by
  obtain⟨i,hi⟩:=all e he
  exact List.mem_of_getElem? (by rw[Array.getElem?_toList]; exact hi)) (Nat.zero_le _)
 have:=T.few
 rw[Array.length_toList]at *
 omega
theorem go_spec{t:SetTable}(T:Tb t){hashAt:Nat→Int}{h:Int}:∀ (fuel:Nat) (p:Probe) (N:Nat),p.dummy=none→N<fuel→¬ Occ t (stp t.mask N p).j→
  ∃ n,(∀ m,m<n→∃ i:Nat,t.place[i]?=some (stp t.mask m p).j∧hashAt i≠h)∧
   ((¬ Occ t (stp t.mask n p).j∧probe.go t hashAt h fuel p=some (.empty (stp t.mask n p).j none))∨
    (∃ i:Nat,t.place[i]?=some (stp t.mask n p).j∧hashAt i=h∧probe.go t hashAt h fuel p=some (.candidate (stp t.mask n p).j i (stp t.mask (n+1) p))))
 |0,p,N,_,hN,_=>by omega
 |fuel+1,p,N,hd,hN,hE=>by
  by_cases ho:Occ t p.j
  ·obtain⟨i,hi⟩:=ho
   by_cases hh:hashAt i=h
   ·refine⟨0,fun m hm=>by omega,.inr ⟨i,hi,hh,?_⟩⟩
    unfold probe.go
    rw[slot_live T hi]
    simp only[hh,beq_self_eq_true,if_true]
    rfl
   ·cases N with
    |zero=>exact absurd ⟨i,hi⟩ hE
    |succ N=>
     have hd':(adv t.mask p).dummy=none:=by unfold adv; split<;>exact hd
     obtain⟨n,q1,q2⟩:=go_spec T fuel (adv t.mask p) N hd' (by omega) hE
     have eg:probe.go t hashAt h (fuel+1) p=probe.go t hashAt h fuel (adv t.mask p):=by
      conv=>lhs; unfold probe.go
      rw[slot_live T hi]
      have:(hashAt i==h)=false:=by simpa using hh
      simp only[this,Bool.false_eq_true,if_false]
      rfl
     refine⟨n+1,fun m hm=>?_,?_⟩
     ·cases m with
      |zero=>exact⟨i,hi,hh⟩
      |succ m=>exact q1 m (by omega)
     ·rw[eg]
      exact q2
  ·refine⟨0,fun m hm=>by omega,.inl ⟨ho,?_⟩⟩
   unfold probe.go
   rw[slot_empty T ho]
   show some (Met.empty p.j p.dummy)=_
   rw[hd]; rfl
theorem probe_spec{t:SetTable}(T:Tb t){hashAt:Nat→Int}{h:Int}{p:Probe}(hp:Okp t.mask p):
  ∃ n,(∀ m,m<n→∃ i:Nat,t.place[i]?=some (stp t.mask m p).j∧hashAt i≠h)∧
   ((¬ Occ t (stp t.mask n p).j∧t.probe hashAt h p=some (.empty (stp t.mask n p).j none))∨
    (∃ i:Nat,t.place[i]?=some (stp t.mask n p).j∧hashAt i=h∧t.probe hashAt h p=some (.candidate (stp t.mask n p).j i (stp t.mask (n+1) p)))):=by
 obtain⟨e,he,hf⟩:=some_free T
 obtain⟨N,hN,eN⟩:=hits T.mask hp he
 exact go_spec T _ p N hp.dm hN (by rw[eN]; exact hf)
end ST
end
section
namespace ST
open PySem SetTable
section
variable {α:Type}
theorem ins_get(xs:Array α)(p:Nat)(x:α)(hp:p≤xs.size)(i:Nat):(insertAt xs p x)[i]?=if i<p then xs[i]? else if i=p then some x else xs[i - 1]?:=by
 unfold insertAt
 rw[Array.getElem?_append,Array.getElem?_push,Array.getElem?_extract,Array.getElem?_extract]
 simp only[Array.size_push,Array.size_extract]
 have e:min p xs.size=p:=by omega
 simp only[e,Nat.sub_zero,Nat.zero_add]
 by_cases h1:i<p
 ·rw[if_pos (by omega),if_neg (by omega),if_pos h1,if_pos h1]
 ·by_cases h2:i=p
  ·subst h2
   rw[if_pos (by omega),if_pos rfl,if_neg h1,if_pos rfl]
  ·rw[if_neg (by omega),if_neg h1,if_neg h2]
   by_cases h3:i - (p+1)<min xs.size xs.size - p
   ·rw[if_pos h3]; congr 1; omega
   ·rw[if_neg h3]
    exact(Array.getElem?_eq_none (by omega)).symm
theorem ins_size(xs:Array α)(p:Nat)(x:α)(hp:p≤xs.size):(insertAt xs p x).size=xs.size+1:=by
 unfold insertAt
 simp only[Array.size_append,Array.size_push,Array.size_extract]
 omega
theorem ins_mem{xs:Array α}{p:Nat}{x y:α}(hp:p≤xs.size):y∈(insertAt xs p x).toList↔y∈xs.toList∨y=x:=by
 unfold insertAt
 simp only[Array.toList_append,Array.toList_push,Array.toList_extract,List.mem_append,List.mem_singleton,List.extract_eq_drop_take,Nat.sub_zero,List.drop_zero]
 have e:xs.toList.take p++xs.toList.drop p=xs.toList:=List.take_append_drop p _
 have e2:(xs.toList.drop p).take (xs.size - p)=xs.toList.drop p:=List.take_of_length_le (by simp)
 rw[e2]
 conv=>rhs; rw[← e,List.mem_append]
 constructor
 ·rintro ((h|h)|h)
  ·exact .inl (.inl h)
  ·exact .inr h
  ·exact .inl (.inr h)
 ·rintro ((h|h)|h)
  ·exact .inl (.inl h)
  ·exact .inr h
  ·exact .inl (.inr h)
end
def Reach(t:SetTable)(h:Int)(j:Nat):Prop:=∃ n,(stp t.mask n (startP t.mask h)).j=j∧∀ m,m<n→Occ t (stp t.mask m (startP t.mask h)).j
structure SI {α:Type}(t:SetTable) (es:Array (Int×α)):Prop where
 tb:Tb t
 sz:t.place.size=es.size
 reach:∀ (i j:Nat) (e:Int×α),t.place[i]?=some j→es[i]?=some e→Reach t e.1 j
theorem put_eq{t:SetTable}(T:Tb t)(j:Nat):t.put j=({ t with place:=insertAt t.place (below t.place j) j },below t.place j):=by
 unfold put
 have hd:has t.dummies j=false:=by rw[T.dum]; unfold has; simp
 simp only[hd,Bool.false_eq_true,if_false]
theorem put_ok{α:Type}{t:SetTable}{es:Array (Int×α)}(I:SI t es){j:Nat}{h:Int}{x:α}(hj:j≤t.mask)(hf:¬ Occ t j)(hr:Reach t h j)(hs:es.size+1≤t.mask):
  SI (t.put j).1 (insertAt es (t.put j).2 (h,x)):=by
 obtain⟨b1,b2,b3⟩:=below_spec (j:=j) I.tb.up
 have b3':below t.place j≤es.size:=by rw[← I.sz]; exact b3
 rw[put_eq I.tb]
 have oc:∀ j',Occ t j'→Occ { t with place:=insertAt t.place (below t.place j) j } j':=fun j' ⟨i,hi⟩=>by
  by_cases h1:i<below t.place j
  ·exact⟨i,by show(insertAt _ _ _)[i]?=_; rw[ins_get _ _ _ b3,if_pos h1]; exact hi⟩
  ·exact⟨i+1,by show(insertAt _ _ _)[i+1]?=_; rw[ins_get _ _ _ b3,if_neg (by omega),if_neg (by omega)]; exact hi⟩
 have rc:∀ h' j',Reach t h' j'→Reach { t with place:=insertAt t.place (below t.place j) j } h' j':=fun h' j' ⟨n,e,q⟩=>⟨n,e,fun m hm=>oc _ (q m hm)⟩
 refine⟨⟨I.tb.mask,I.tb.dum,?_,?_,?_⟩,?_,?_⟩
 ·intro i k a b hik ha hb
  have ha:(insertAt t.place (below t.place j) j)[i]?=some a:=ha
  have hb:(insertAt t.place (below t.place j) j)[k]?=some b:=hb
  rw[ins_get _ _ _ b3]at ha hb
  have ne:∀ (i' c:Nat),t.place[i']?=some c→c≠j:=fun i' c e z=>hf ⟨i',by rw[← z]; exact e⟩
  split at ha
  ·split at hb
   ·exact I.tb.up _ _ _ _ hik ha hb
   ·split at hb
    ·cases hb; exact b1 _ _ (by assumption) ha
    ·exact I.tb.up _ _ _ _ (by omega) ha hb
  ·split at ha
   ·cases ha
    rw[if_neg (by omega),if_neg (by omega)]at hb
    have:=b2 _ _ (by omega) hb
    have:=ne _ _ hb
    omega
   ·rw[if_neg (by omega),if_neg (by omega)]at hb
    exact I.tb.up _ _ _ _ (by omega) ha hb
 ·intro i j' e
  have e:(insertAt t.place (below t.place j) j)[i]?=some j':=e
  rw[ins_get _ _ _ b3]at e
  split at e
  ·exact I.tb.le _ _ e
  ·split at e
   ·cases e; exact hj
   ·exact I.tb.le _ _ e
 ·show(insertAt t.place (below t.place j) j).size≤t.mask
  rw[ins_size _ _ _ b3,I.sz]; exact hs
 ·show(insertAt t.place (below t.place j) j).size=_
  rw[ins_size _ _ _ b3,ins_size _ _ _ b3',I.sz]
 ·intro i j' e e1 e2
  have e1:(insertAt t.place (below t.place j) j)[i]?=some j':=e1
  have e2:(insertAt es (below t.place j) (h,x))[i]?=some e:=e2
  rw[ins_get _ _ _ b3]at e1
  rw[ins_get _ _ _ b3']at e2
  split at e1
  ·rename_i h1
   rw[if_pos h1]at e2
   exact rc _ _ (I.reach _ _ _ e1 e2)
  ·rename_i h1
   rw[if_neg h1]at e2
   split at e1
   ·rename_i h2
    rw[if_pos h2]at e2
    cases e1; cases e2
    exact rc _ _ hr
   ·rename_i h2
    rw[if_neg h2]at e2
    exact rc _ _ (I.reach _ _ _ e1 e2)
theorem absent_of{α:Type}{t:SetTable}{es:Array (Int×α)}(I:SI t es){h:Int}{n:Nat}{bad:Nat→Prop}(hb:∀ m,m<n→∃ i:Nat,t.place[i]?=some (stp t.mask m (startP t.mask h)).j∧bad i)(hn:¬ Occ t (stp t.mask n (startP t.mask h)).j):
  ∀ (i:Nat) (e:Int×α),es[i]?=some e→e.1=h→bad i:=fun i e he hh=>by
 have hi:i<t.place.size:=by rw[I.sz]; exact(Array.getElem?_eq_some_iff.mp he).1
 have hp:t.place[i]?=some t.place[i]:=Array.getElem?_eq_getElem hi
 obtain⟨n',q1,q2⟩:=I.reach _ _ _ hp he
 rw[hh]at q1 q2
 rcases Nat.lt_trichotomy n n' with h1|h1|h1
 ·exact absurd (q2 n h1) hn
 ·subst h1; exact absurd ⟨i,by rw[q1]; exact hp⟩ hn
 ·obtain⟨i',e',b⟩:=hb n' h1
  rw[q1]at e'
  have:i'=i:=(below_at I.tb.up e').symm.trans (below_at I.tb.up hp)
  rw[← this]; exact b
theorem fresh_ok{α:Type}(led:Bool):SI (α:=α) (PySem.SetTable.fresh 0 0 led) #[]:=
 ⟨⟨.inl rfl,rfl,fun i k a b _ h=>by simp[PySem.SetTable.fresh]at h,fun i j h=>by simp[PySem.SetTable.fresh]at h,by simp[PySem.SetTable.fresh]⟩,rfl,fun i j e h=>by simp[PySem.SetTable.fresh]at h⟩
end ST
end
section
namespace ST
open PySem SetTable
def OcO(ow:Array (Option Nat))(j:Nat):Prop:=∃ k,ow[j]?=some (some k)
theorem getD_none{ow:Array (Option Nat)}{j:Nat}(hj:j<ow.size):(ow.getD j (some 0)).isNone=true↔¬ OcO ow j:=by
 have e:ow[j]?=some ow[j]:=Array.getElem?_eq_getElem hj
 rw[Array.getD_eq_getD_getElem?,e]
 show(ow[j]).isNone=true↔_
 cases h:ow[j] with
 |none=>simp[OcO,e,h]
 |some k=>simp[OcO,e,h]
theorem run_pos(m i pt:Nat)(d:Option Nat):∀ k,k≤runEnd m i - i→(stp m k (runP m i pt d)).j=i+k∧(stp m k (runP m i pt d)).more=runEnd m i - i - k
 |0,_=>⟨rfl,rfl⟩
 |k+1,h=>by
  obtain⟨h1,h2⟩:=run_pos m i pt d k (by omega)
  rw[stp_succ]
  have e:adv m (stp m k (runP m i pt d))={ stp m k (runP m i pt d) with j:=(stp m k (runP m i pt d)).j+1,more:=(stp m k (runP m i pt d)).more - 1 }:=by
   conv=>lhs; unfold adv
   rw[if_pos (by omega)]
  rw[e]
  exact⟨by show(stp m k (runP m i pt d)).j+1=_; omega,by show(stp m k (runP m i pt d)).more - 1=_; omega⟩
theorem runEnd_le{m i:Nat}(h:i≤m):i≤runEnd m i∧runEnd m i≤m:=by unfold runEnd; split<;>omega
theorem find_range{p:Nat→Bool}{n k:Nat}(h:(List.range n).find? p=some k):k<n∧p k=true∧∀ k',k'<k→p k'=false:=by
 have h1:=List.find?_some h
 have h2:=List.mem_of_find?_eq_some h
 refine⟨List.mem_range.mp h2,h1,fun k' hk=>?_⟩
 rw[List.find?_range_eq_some]at h
 have:=h.2.2 k' hk
 simpa using this
theorem free_ok{m:Nat}{ow:Array (Option Nat)}(hs:ow.size=m+1):∀ (fuel i pt n':Nat),i≤m→n'<fuel→¬ OcO ow (lp m n' (i,pt)).1→
  ∃ n j,layClean.free m ow fuel i pt=some j∧(stp m n (runP m i pt none)).j=j∧j≤m∧¬ OcO ow j∧∀ k,k<n→OcO ow (stp m k (runP m i pt none)).j
 |0,i,pt,n',_,hn,_=>by omega
 |fuel+1,i,pt,n',hi,hn,he=>by
  unfold layClean.free
  obtain⟨r1,r2⟩:=runEnd_le hi
  cases hf:(List.range (runEnd m i+1 - i)).find? fun k=>(ow.getD (i+k) (some 0)).isNone with
  |some k=>
   obtain⟨f1,f2,f3⟩:=find_range hf
   refine⟨k,i+k,rfl,(run_pos m i pt none k (by omega)).1,by omega,(getD_none (by omega)).mp f2,fun k' hk=>?_⟩
   rw[(run_pos m i pt none k' (by omega)).1]
   have:=f3 k' hk
   apply Classical.byContradiction
   intro hc
   rw[(getD_none (by omega)).mpr hc]at this
   cases this
  |none=>
   have all:∀ k,k<runEnd m i+1 - i→OcO ow (i+k):=fun k hk=>by
    have:=List.find?_eq_none.mp hf k (List.mem_range.mpr hk)
    apply Classical.byContradiction
    intro hc
    exact this ((getD_none (by omega)).mpr hc)
   cases n' with
   |zero=>exact absurd (all 0 (by omega)) he
   |succ n'=>
    have hl:(leap m i pt).1≤m:=Nat.le_of_lt_succ (Nat.mod_lt _ (Nat.succ_pos _))
    obtain⟨n,j,q1,q2,q3,q4,q5⟩:=free_ok hs fuel (leap m i pt).1 (leap m i pt).2 n' hl (by omega) he
    refine⟨(runEnd m i - i)+1+n,j,q1,?_,q3,q4,fun k hk=>?_⟩
    ·rw[stp_add,run_on m (runEnd m i - i) (runP m i pt none) rfl]; exact q2
    ·rcases Nat.lt_or_ge k (runEnd m i - i+1) with h|h
     ·rw[(run_pos m i pt none k (by omega)).1]; exact all k (by omega)
     ·have e:k=(runEnd m i - i)+1+(k - (runEnd m i - i+1)):=by omega
      rw[e,stp_add,run_on m (runEnd m i - i) (runP m i pt none) rfl]
      exact q5 _ (by omega)
structure FI (m:Nat) (ow:Array (Option Nat)) (hs:List Int):Prop where
 size:ow.size=m+1
 val:∀ (j k:Nat),ow[j]?=some (some k)→k<hs.length
 sur:∀ k,k<hs.length→∃ j:Nat,ow[j]?=some (some k)
 reach:∀ (j k:Nat) (h:Int),ow[j]?=some (some k)→hs[k]?=some h→∃ n,(stp m n (startP m h)).j=j∧∀ q,q<n→OcO ow (stp m q (startP m h)).j
 cnt:ow.toList.countP Option.isSome=hs.length
theorem FI.zero(m:Nat):FI m (Array.replicate (m+1) none) [] where
 size:=by simp
 val:=fun j k h=>by
  rw[Array.getElem?_replicate]at h
  split at h<;>simp at h
 sur:=fun k h=>by simp at h
 reach:=fun j k x h=>by
  rw[Array.getElem?_replicate]at h
  split at h<;>simp at h
 cnt:=by rw[Array.toList_replicate]; simp
theorem FI.some_free{m:Nat}{ow:Array (Option Nat)}{hs:List Int}(I:FI m ow hs)(h:hs.length≤m):∃ e,e≤m∧¬ OcO ow e:=by
 apply Classical.byContradiction
 intro hn
 have all:∀ x∈ow.toList,Option.isSome x=true:=fun x hx=>by
  obtain⟨j,hj,e⟩:=List.getElem_of_mem hx
  have hj':j<ow.size:=by simpa using hj
  have:OcO ow j:=Classical.byContradiction fun hc=>hn ⟨j,by have:=I.size; omega,hc⟩
  obtain⟨k,hk⟩:=this
  rw[Array.getElem?_eq_getElem hj']at hk
  rw[Array.getElem_toList]at e
  rw[← e,Option.some.inj hk]; rfl
 have:=List.countP_eq_length.mpr all
 have e1:=I.cnt
 have e2:ow.toList.length=m+1:=(Array.length_toList).trans I.size
 omega
theorem FI.more{m:Nat}(hm:m=7∨m=31){ow:Array (Option Nat)}{hs:List Int}(I:FI m ow hs)(hl:hs.length≤m)(h:Int):
  ∃ j,layClean.free m ow (turns m) (bits h % (m+1)) (bits h)=some j∧FI m (ow.setIfInBounds j (some hs.length)) (hs++[h]):=by
 obtain⟨e,he,hf⟩:=I.some_free hl
 have ok:=Okp.start (m:=m) h
 obtain⟨n',_,hn',_,_,e1⟩:=run_hits hm none ok.i ok.pt he
 have e1:(lp m n' (bits h % (m+1),bits h)).1=e:=e1
 obtain⟨n,j,q1,q2,q3,q4,q5⟩:=free_ok I.size (turns m) (bits h % (m+1)) (bits h) n' ok.i (by unfold turns; omega) (by rw[e1]; exact hf)
 refine⟨j,q1,?_⟩
 have hj:j<ow.size:=by rw[I.size]; omega
 have gt:∀ j',(ow.setIfInBounds j (some hs.length))[j']?=if j=j' then some (some hs.length) else ow[j']?:=fun j'=>by
  rw[Array.getElem?_setIfInBounds]
  by_cases h:j=j'
  ·subst h; rw[if_pos rfl,if_pos hj,if_pos rfl]
  ·rw[if_neg h,if_neg h]
 have oc:∀ j',OcO ow j'→OcO (ow.setIfInBounds j (some hs.length)) j':=fun j' ⟨k,hk⟩=>by
  unfold OcO
  rw[gt]
  by_cases h:j=j'
  ·exact⟨_,if_pos h⟩
  ·rw[if_neg h]; exact⟨k,hk⟩
 refine⟨by rw[Array.size_setIfInBounds]; exact I.size,fun j' k hk=>?_,fun k hk=>?_,fun j' k h' hk hh=>?_,?_⟩
 ·rw[gt]at hk
  rw[List.length_append,List.length_singleton]
  split at hk
  ·cases hk; omega
  ·have:=I.val _ _ hk; omega
 ·rw[List.length_append,List.length_singleton]at hk
  rcases Nat.lt_or_ge k hs.length with h1|h1
  ·obtain⟨j',hj'⟩:=I.sur k h1
   refine⟨j',?_⟩
   rw[gt,if_neg (fun z=>q4 (by rw[z]; exact⟨k,hj'⟩))]; exact hj'
  ·have:k=hs.length:=by omega
   subst this
   exact⟨j,by rw[gt,if_pos rfl]⟩
 ·rw[gt]at hk
  split at hk
  ·rename_i hjj
   cases hk
   rw[List.getElem?_append_right (Nat.le_refl _),Nat.sub_self]at hh
   cases hh
   exact⟨n,by rw[← hjj]; exact q2,fun q hq=>oc _ (q5 q hq)⟩
  ·have hk':=I.val _ _ hk
   rw[List.getElem?_append_left hk']at hh
   obtain⟨n1,a1,a2⟩:=I.reach _ _ _ hk hh
   exact⟨n1,a1,fun q hq=>oc _ (a2 q hq)⟩
 ·rw[Array.toList_setIfInBounds,List.countP_set (by simpa using hj)]
  have hnone:(ow.toList[j]'(by simpa using hj)).isSome=false:=by
   cases e:ow.toList[j]'(by simpa using hj) with
   |none=>rfl
   |some k=>exact absurd ⟨k,by rw[← Array.getElem?_toList,List.getElem?_eq_getElem (by simpa using hj),e]⟩ q4
  simp only[hnone,I.cnt]
  simp
theorem lay_fold{m:Nat}(hm:m=7∨m=31):∀ (l:List Int) (ow:Array (Option Nat)) (hs:List Int),FI m ow hs→hs.length+l.length≤m+1→
  ∃ ow',l.foldl (fun acc h=>do let (owner,k) ← acc; let j ← layClean.free m owner (turns m) (bits h % (m+1)) (bits h); pure (owner.setIfInBounds j (some k),k+1)) (some (ow,hs.length))=some (ow',hs.length+l.length)∧FI m ow' (hs++l)
 |[],ow,hs,I,_=>⟨ow,rfl,by rw[List.append_nil]; exact I⟩
 |h::l,ow,hs,I,hl=>by
  simp only[List.length_cons]at hl
  obtain⟨j,e,I'⟩:=I.more hm (by omega) h
  obtain⟨ow',e',I''⟩:=lay_fold hm l _ _ I' (by simp; omega)
  refine⟨ow',?_,by simpa using I''⟩
  rw[List.foldl_cons]
  have:(do let (owner,k) ← (some (ow,hs.length):Option (Array (Option Nat)×Nat)); let j ← layClean.free m owner (turns m) (bits h % (m+1)) (bits h); pure (owner.setIfInBounds j (some k),k+1))=some (ow.setIfInBounds j (some hs.length),hs.length+1):=by
   show(layClean.free m ow (turns m) (bits h % (m+1)) (bits h)).bind _=_
   rw[e]; rfl
  rw[this]
  have el:hs.length+1=(hs++[h]).length:=by simp
  rw[el,e']
  simp; omega
theorem lay_ok{m:Nat}(hm:m=7∨m=31)(hs:Array Int)(hl:hs.size≤m+1):∃ ow,layClean m hs=some ow∧FI m ow hs.toList:=by
 obtain⟨ow,e,I⟩:=lay_fold hm hs.toList _ [] (FI.zero m) (by simpa using hl)
 refine⟨ow,?_,by simpa using I⟩
 unfold layClean
 rw[← Array.foldl_toList]
 exact congrArg (Option.map (·.1)) e
end ST
end
section
namespace ST
open PySem SetTable
noncomputable def liveOf(m:Nat)(ow:Array (Option Nat)):List (Nat×Nat):=(List.range (m+1)).filterMap fun j=>(ow.getD j none).map (j,·)
theorem mem_live{m:Nat}{ow:Array (Option Nat)}{hs:List Int}(I:FI m ow hs){q:Nat×Nat}:q∈liveOf m ow↔ow[q.1]?=some (some q.2):=by
 unfold liveOf
 rw[List.mem_filterMap]
 constructor
 ·rintro⟨j,hj,e⟩
  have hj':j<ow.size:=by rw[I.size]; exact List.mem_range.mp hj
  rw[Array.getD_eq_getD_getElem?,Array.getElem?_eq_getElem hj']at e
  cases h:ow[j] with
  |none=>rw[h]at e; cases e
  |some k=>
   rw[h]at e
   cases e
   rw[Array.getElem?_eq_getElem hj',h]
 ·intro e
  have hj:q.1<ow.size:=(Array.getElem?_eq_some_iff.mp e).1
  refine⟨q.1,List.mem_range.mpr (by rw[← I.size]; exact hj),?_⟩
  rw[Array.getD_eq_getD_getElem?,e]
  rfl
theorem live_up(m:Nat)(ow:Array (Option Nat)):(liveOf m ow).Pairwise fun a b=>a.1<b.1:=by
 unfold liveOf
 refine List.Pairwise.filterMap _ (R:=fun a b=>a<b) (fun a a' h b hb b' hb'=>?_) (List.pairwise_lt_range)
 cases e:ow.getD a none with
 |none=>rw[e]at hb; cases hb
 |some k=>
  cases e':ow.getD a' none with
  |none=>rw[e']at hb'; cases hb'
  |some k'=>
   rw[e]at hb; rw[e']at hb'
   cases hb; cases hb'
   exact h
theorem live_len{m:Nat}{ow:Array (Option Nat)}{hs:List Int}(I:FI m ow hs):(liveOf m ow).length=hs.length:=by
 unfold liveOf
 rw[List.length_filterMap_eq_countP,← I.cnt]
 have e:ow.toList=(List.range (m+1)).map fun j=>ow.getD j none:=by
  apply List.ext_getElem?
  intro j
  rw[Array.getElem?_toList,List.getElem?_map]
  rcases Nat.lt_or_ge j (m+1) with h|h
  ·rw[List.getElem?_range h]
   have hj:j<ow.size:=by rw[I.size]; exact h
   rw[Array.getElem?_eq_getElem hj]
   show _=some (ow.getD j none)
   rw[Array.getD_eq_getD_getElem?,Array.getElem?_eq_getElem hj]; rfl
  ·rw[Array.getElem?_eq_none (by rw[I.size]; exact h),List.getElem?_eq_none (by simpa using h)]; rfl
 rw[e,List.countP_map]
 refine List.countP_congr fun j _=>?_
 simp
theorem pick_all{α:Type}(es:Array α):∀ (l:List Nat),(∀ k∈l,k<es.size)→(l.filterMap fun k=>es[k]?).length=l.length∧∀ i:Nat,(l.filterMap fun k=>es[k]?)[i]?=l[i]?.bind fun k=>es[k]?
 |[],_=>⟨rfl,fun i=>by simp⟩
 |k::l,h=>by
  obtain⟨h1,h2⟩:=pick_all es l fun k' hk=>h k' (List.mem_cons_of_mem _ hk)
  have hk:k<es.size:=h k List.mem_cons_self
  have e:es[k]?=some es[k]:=Array.getElem?_eq_getElem hk
  rw[List.filterMap_cons,e]
  refine⟨by simp[h1],fun i=>?_⟩
  cases i with
  |zero=>simp[e]
  |succ i=>simp only[List.getElem?_cons_succ]; exact h2 i
theorem laid_ok{α:Type}{m f mv:Nat}{led plain:Bool}(hm:m=7∨m=31)(es:Array (Int×α))(hl:es.size≤m):
  ∃ t order,laid m f mv led plain (es.map (·.1))=some (t,order)∧SI t (order.filterMap (es[·]?))∧(order.filterMap (es[·]?)).size=es.size∧(∀ e,e∈(order.filterMap (es[·]?)).toList↔e∈es.toList)∧t.mask=m:=by
 obtain⟨ow,e,I⟩:=lay_ok hm (es.map (·.1)) (by rw[Array.size_map]; omega)
 have hlen:(es.map (·.1)).toList.length=es.size:=by simp
 have il:∀ k∈(liveOf m ow).map (·.2),k<es.size:=fun k hk=>by
  obtain⟨q,hq,rfl⟩:=List.mem_map.mp hk
  rw[← hlen]
  exact I.val _ _ ((mem_live I).mp hq)
 obtain⟨p1,p2⟩:=pick_all es _ il
 have tl:(((liveOf m ow).map (·.2)).toArray.filterMap (es[·]?)).toList=((liveOf m ow).map (·.2)).filterMap fun k=>es[k]?:=by simp
 have at_:∀ i:Nat,(((liveOf m ow).map (·.2)).toArray.filterMap (es[·]?))[i]?=((liveOf m ow)[i]?.map (·.2)).bind fun k=>es[k]?:=fun i=>by
  rw[← Array.getElem?_toList,tl,p2,List.getElem?_map]
 have pl:∀ i:Nat,((liveOf m ow).map (·.1)).toArray[i]?=(liveOf m ow)[i]?.map (·.1):=fun i=>by simp
 have oc:∀ j,OcO ow j→Occ { mask:=m,place:=((liveOf m ow).map (·.1)).toArray,dummies:=#[],finger:=f,led:=led,moves:=mv,plain:=plain } j:=fun j ⟨k,hk⟩=>by
  obtain⟨i,hi,e⟩:=List.getElem_of_mem ((mem_live I (q:=(j,k))).mpr hk)
  refine⟨i,?_⟩
  show((liveOf m ow).map (·.1)).toArray[i]?=_
  rw[pl,List.getElem?_eq_getElem hi,e]; rfl
 have ns:(((liveOf m ow).map (·.2)).toArray.filterMap (es[·]?)).size=es.size:=by
  rw[← Array.length_toList,tl,p1,List.length_map,live_len I,hlen]
 refine⟨{ mask:=m,place:=((liveOf m ow).map (·.1)).toArray,dummies:=#[],finger:=f,led:=led,moves:=mv,plain:=plain },((liveOf m ow).map (·.2)).toArray,?_,⟨⟨hm,rfl,?_,?_,?_⟩,?_,?_⟩,ns,?_,rfl⟩
 ·unfold laid
  rw[e]; rfl
 ·intro i k a b hik ha hb
  have ha:((liveOf m ow).map (·.1)).toArray[i]?=some a:=ha
  have hb:((liveOf m ow).map (·.1)).toArray[k]?=some b:=hb
  rw[pl]at ha hb
  obtain⟨x,hx,rfl⟩:=Option.map_eq_some_iff.mp ha
  obtain⟨y,hy,rfl⟩:=Option.map_eq_some_iff.mp hb
  obtain⟨h1,e1⟩:=List.getElem?_eq_some_iff.mp hx
  obtain⟨h2,e2⟩:=List.getElem?_eq_some_iff.mp hy
  have:=List.pairwise_iff_getElem.mp (live_up m ow) i k h1 h2 hik
  rw[e1,e2]at this
  exact this
 ·intro i j hj
  have hj:((liveOf m ow).map (·.1)).toArray[i]?=some j:=hj
  rw[pl]at hj
  obtain⟨x,hx,rfl⟩:=Option.map_eq_some_iff.mp hj
  have:=(mem_live I).mp (List.mem_of_getElem? hx)
  have:=(Array.getElem?_eq_some_iff.mp this).1
  rw[I.size]at this
  show x.1≤m
  omega
 ·show((liveOf m ow).map (·.1)).toArray.size≤m
  rw[List.size_toArray,List.length_map,live_len I,hlen]; exact hl
 ·show((liveOf m ow).map (·.1)).toArray.size=_
  rw[List.size_toArray,List.length_map,live_len I,hlen,ns]
 ·intro i j x hj hx
  have hj:((liveOf m ow).map (·.1)).toArray[i]?=some j:=hj
  rw[pl]at hj
  rw[at_]at hx
  obtain⟨q,hq,rfl⟩:=Option.map_eq_some_iff.mp hj
  rw[hq]at hx
  have hx:es[q.2]?=some x:=hx
  have ho:=(mem_live I).mp (List.mem_of_getElem? hq)
  obtain⟨n,a1,a2⟩:=I.reach q.1 q.2 x.1 ho (by rw[Array.getElem?_toList,Array.getElem?_map,hx]; rfl)
  exact⟨n,a1,fun z hz=>oc _ (a2 z hz)⟩
 ·intro x
  rw[tl,List.mem_filterMap]
  constructor
  ·rintro⟨k,_,hk⟩
   exact List.mem_of_getElem? (by rw[Array.getElem?_toList]; exact hk)
  ·intro hx
   obtain⟨k,hk,e'⟩:=List.getElem_of_mem hx
   have hk':k<(es.map (·.1)).toList.length:=by rw[hlen]; simpa using hk
   obtain⟨j,hj⟩:=I.sur k hk'
   refine⟨k,List.mem_map.mpr ⟨(j,k),(mem_live I).mpr hj,rfl⟩,?_⟩
   rw[← Array.getElem?_toList,List.getElem?_eq_getElem hk,e']
end ST
end
section
namespace ST
open PySem SetTable
theorem probe_met{t:SetTable}(T:Tb t){hashAt:Nat→Int}{h:Int}{p:Probe}(hp:Okp t.mask p){met:Option Met}(hm:t.probe hashAt h p=met):
  ∃ n,(∀ m,m<n→∃ i:Nat,t.place[i]?=some (stp t.mask m p).j∧hashAt i≠h)∧
   ((¬ Occ t (stp t.mask n p).j∧met=some (.empty (stp t.mask n p).j none))∨
    (∃ i:Nat,t.place[i]?=some (stp t.mask n p).j∧hashAt i=h∧met=some (.candidate (stp t.mask n p).j i (stp t.mask (n+1) p)))):=by
 subst hm
 exact probe_spec T hp
theorem SI.fits{α:Type}{t:SetTable}{es:Array (Int×α)}(I:SI t es):t.fits es.size=true:=by
 unfold SetTable.fits SetTable.fill
 rw[I.tb.dum]
 have:=I.tb.few
 simp[I.sz]
 rw[← I.sz]; exact this
theorem Tb.stays{t:SetTable}(T:Tb t):t.gaveWay=false:=by
 unfold SetTable.gaveWay
 rcases T.mask with h|h<;>rw[h]<;>rfl
section
variable {prog:Program}{w:World}{A:Around}{E:Value→Shared→Prop}{s:Shared}{K:Type} [DecidableEq K]{knd:KeyKind prog w K}
theorem quietC_byValue(n:Nat){v:Value}(h:carriedByValue v=true):ofAClassStatement n v=pure false:=by
 cases v with
 |ref a=>simp[carriedByValue]at h
 |_=>unfold ofAClassStatement; rfl
theorem wp_ofClass{ks:List K}{b:Addr}{Q:Bool→Shared→Prop}(hk:IsTupleKey knd s.heap ks b)(h:Q false s):wpAny (model prog w) A (ofAClassStatement 8 (.ref b)) Q E s:=by
 have hT:=hk.typeIs
 obtain⟨o,items,n,ho,hc,hd,hi⟩:=hk
 unfold ofAClassStatement
 refine wpAny_bind (wpAny_typeOf hT ?_)
 dsimp only
 refine wpAny_bind ?_
 refine wpAny_pure ?_
 simp only[Bool.not_true,Bool.false_eq_true,if_false]
 refine wpAny_bind (wpAny_seqItems ho hd ?_)
 refine wpAny_bind ?_
 show wpAny _ _ (forIn items _ _) _ _ s
 rw[← Array.forIn_toList]
 refine wpAny_forIn_list _ (fun rest r s'=>r.1=none∧s'=s∧∀ v∈rest,carriedByValue v=true) _ ?_ ?_ _ _ ⟨rfl,rfl,hi.byValue⟩
 ·rintro v rest r s' ⟨hr,rfl,hall⟩
  rw[quietC_byValue _ (hall v List.mem_cons_self)]
  refine wpAny_bind (wpAny_pure ?_)
  simp only[Bool.false_eq_true,if_false]
  exact wpAny_pure ⟨rfl,rfl,fun u hu'=>hall u (List.mem_cons_of_mem _ hu')⟩
 ·rintro⟨r1,r2⟩ s' ⟨hr,rfl,_⟩
  simp only at hr
  subst hr
  exact wpAny_pure h
theorem wp_seen{x:Addr}{ks:List K}{l:List Value}{Q:Bool→Shared→Prop}(hx:IsTupleKey knd s.heap ks x)(hl:∀ y∈l,∃ b k,y=.ref b∧IsTupleKey knd s.heap k b)(h:Q false s):
  wpAny (model prog w) A (searchCouldBeSeen (.ref x) l) Q E s:=by
 unfold searchCouldBeSeen
 refine wpAny_bind ?_
 refine wpAny_forIn_list _ (fun rest r s'=>r.1=none∧s'=s∧∀ y∈rest,∃ b k,y=.ref b∧IsTupleKey knd s.heap k b) _ ?_ ?_ _ _ ⟨rfl,rfl,hl⟩
 ·rintro y rest r s' ⟨hr,rfl,hall⟩
  obtain⟨b,k,rfl,hb⟩:=hall y List.mem_cons_self
  have go:∀ {r':MProd (Option Bool) PUnit},r'.1=none→(fun(r:ForInStep (MProd (Option Bool) PUnit)) s''=>match r with|.done r=>r.1=none∧s''=s'∧True|.yield r=>r.1=none∧s''=s'∧True) (.yield r') s':=fun h=>⟨h,rfl,trivial⟩
  dsimp only
  have e1:(carriedByValue (Value.ref x)&&carriedByValue (Value.ref b))=false:=rfl
  simp only[e1,Bool.or_false]
  by_cases he:(x==b)=true
  ·rw[if_pos he]
   exact wpAny_pure ⟨rfl,rfl,fun u hu'=>hall u (List.mem_cons_of_mem _ hu')⟩
  ·rw[if_neg he]
   refine wpAny_bind (wpAny_eqIsQuiet_tuple hx ?_)
   simp only[Bool.not_true,Bool.false_eq_true,if_false]
   refine wpAny_bind (wpAny_eqIsQuiet_tuple hb ?_)
   simp only[Bool.not_true,Bool.false_eq_true,if_false]
   refine wpAny_bind (wp_ofClass hx ?_)
   simp only[Bool.false_eq_true,if_false]
   refine wpAny_bind (wp_ofClass hb ?_)
   simp only[Bool.false_eq_true,if_false]
   exact wpAny_pure ⟨rfl,rfl,fun u hu'=>hall u (List.mem_cons_of_mem _ hu')⟩
 ·rintro⟨r1,r2⟩ s' ⟨hr,rfl,_⟩
  simp only at hr
  subst hr
  exact wpAny_pure h
end
section
variable {prog:Program}{w:World}{A:Around}{E:Value→Shared→Prop}{s:Shared}
theorem ints_of{ks:List Int}{vs:List Value}(h:ItemsAre (intKind prog w) ks vs):∀ v∈vs,∃ i t,v=.int i t:=by
 induction h with
 |nil=>intro v hv; simp at hv
 |@cons k v' ks vs h1 _ ih=>
  intro v hv
  rcases List.mem_cons.mp hv with rfl|hv
  ·obtain⟨t,e⟩:=Value.isInt_shape (show Value.isInt k v=true from h1)
   exact⟨k,t,e⟩
  ·exact ih v hv
theorem wp_byValue{ks:List Int}{b:Addr}{Q:Bool→Shared→Prop}(hk:IsTupleKey (intKind prog w) s.heap ks b)(h:Q true s):wpAny (model prog w) A (hashByValue 8 (.ref b)) Q E s:=by
 have hT:=hk.typeIs
 obtain⟨o,items,n,ho,hc,hd,hi⟩:=hk
 unfold hashByValue
 refine wpAny_bind (wpAny_specialOf hT F.slot_tuple_hash.lookup ?_)
 dsimp only
 refine wpAny_bind (wpAny_seqItems ho hd ?_)
 refine wpAny_bind ?_
 show wpAny _ _ (forIn items _ _) _ _ s
 rw[← Array.forIn_toList]
 refine wpAny_forIn_list _ (fun rest r s'=>r.1=none∧s'=s∧∀ v∈rest,∃ i t,v=.int i t) _ ?_ ?_ _ _ ⟨rfl,rfl,ints_of hi⟩
 ·rintro v rest r s' ⟨hr,rfl,hall⟩
  obtain⟨i,t,rfl⟩:=hall v List.mem_cons_self
  have e:hashByValue 7 (.int i t)=pure true:=by simp[hashByValue]
  rw[e]
  refine wpAny_bind (wpAny_pure ?_)
  simp only[Bool.not_true,Bool.false_eq_true,if_false]
  exact wpAny_pure ⟨rfl,rfl,fun u hu'=>hall u (List.mem_cons_of_mem _ hu')⟩
 ·rintro⟨r1,r2⟩ s' ⟨hr,rfl,_⟩
  simp only at hr
  subst hr
  exact wpAny_pure h
def Els(prog:Program)(w:World)(h:Heap)(es:Array (Int×Value)):Prop:=∀ (i:Nat) (e:Int×Value),es[i]?=some e→∃ b k,e=(tupleKeyHash (intKind prog w) k,.ref b)∧IsTupleKey (intKind prog w) h k b
def Bad(prog:Program)(w:World)(h:Heap)(es:Array (Int×Value))(k:List Int)(i:Nat):Prop:=∀ (e:Int×Value) (b:Addr) (k':List Int),es[i]?=some e→e.2=.ref b→IsTupleKey (intKind prog w) h k' b→k'≠k
theorem search_ok{a:Addr}{o:Obj}{es:Array (Int×Value)}{ep:Nat}{t:SetTable}{x:Addr}{k:List Int}{Q:SetFound→Shared→Prop}(hu:A.units<cLine)(ho:s.heap.get? a=some o)(hd:o.data=.set es ep t)(I:SI t es)(hes:Els prog w s.heap es)
  (hx:IsTupleKey (intKind prog w) s.heap k x)
  (hf:∀ n,(∀ m,m<n→∃ i:Nat,t.place[i]?=some (stp t.mask m (startP t.mask (tupleKeyHash (intKind prog w) k))).j∧Bad prog w s.heap es k i)→¬ Occ t (stp t.mask n (startP t.mask (tupleKeyHash (intKind prog w) k))).j→
   Q (.free (stp t.mask n (startP t.mask (tupleKeyHash (intKind prog w) k))).j false) s)
  (ht:(∃ (i:Nat) (b:Addr) (g:Int),es[i]?=some (g,.ref b)∧IsTupleKey (intKind prog w) s.heap k b)→Q (.there none) s)
  (N:Nat) (hN:¬ Occ t (stp t.mask N (startP t.mask (tupleKeyHash (intKind prog w) k))).j) :
  ∀ (fuel n0:Nat) (stand:Option Probe),stand.getD (t.probeStart (tupleKeyHash (intKind prog w) k))=stp t.mask n0 (startP t.mask (tupleKeyHash (intKind prog w) k))→n0≤N→N - n0<fuel→
   (∀ m,m<n0→∃ i:Nat,t.place[i]?=some (stp t.mask m (startP t.mask (tupleKeyHash (intKind prog w) k))).j∧Bad prog w s.heap es k i)→
   wpAny (model prog w) A (setSearchFrom a (.ref x) (tupleKeyHash (intKind prog w) k) true fuel stand) Q E s
 |0,n0,_,_,_,hlt,_=>by omega
 |fuel+1,n0,stand,hst,hle,hlt,hbad=>by
  unfold setSearchFrom
  refine wpAny_bind (wpAny_setState_of ho hd I.fits ?_)
  dsimp only
  rw[I.tb.stays]
  simp only[Bool.false_eq_true,if_false]
  rw[hst]
  generalize hm:SetTable.probe t _ _ _=met
  have okp:Okp t.mask (stp t.mask n0 (startP t.mask (tupleKeyHash (intKind prog w) k))):=(Okp.start _).stp n0
  obtain⟨n,p1,p2⟩:=probe_met I.tb okp hm
  have bad1:∀ m,m<n→∃ i:Nat,t.place[i]?=some (stp t.mask (n0+m) (startP t.mask (tupleKeyHash (intKind prog w) k))).j∧Bad prog w s.heap es k i:=fun m hm'=>by
   obtain⟨i,i1,i2⟩:=p1 m hm'
   refine⟨i,by rw[stp_add]; exact i1,fun e b k' he hb hk' z=>i2 ?_⟩
   obtain⟨b',k'',e',q⟩:=hes i e he
   have:(es[i]?.map (·.1)).getD 0=tupleKeyHash (intKind prog w) k:=by
    rw[he,e']
    rw[e']at hb
    cases hb
    rw[q.inj hk',z]; rfl
   exact this
  have badN:∀ m,m<n0+n→∃ i:Nat,t.place[i]?=some (stp t.mask m (startP t.mask (tupleKeyHash (intKind prog w) k))).j∧Bad prog w s.heap es k i:=fun m hm'=>by
   rcases Nat.lt_or_ge m n0 with h|h
   ·exact hbad m h
   ·obtain⟨i,i1,i2⟩:=bad1 (m - n0) (by omega)
    rw[show n0+(m - n0)=m by omega]at i1
    exact⟨i,i1,i2⟩
  rw[← stp_add]at p2
  rcases p2 with⟨q1,rfl⟩|⟨i,q1,q2,rfl⟩
  ·dsimp only
   exact wpAny_pure (hf _ badN q1)
  ·dsimp only
   have hi:i<es.size:=by rw[← I.sz]; exact(Array.getElem?_eq_some_iff.mp q1).1
   have he:es[i]?=some es[i]:=Array.getElem?_eq_getElem hi
   obtain⟨b,k',e',hb⟩:=hes i _ he
   rw[e']at he
   have hnN:n0+n<N:=by
    rcases Nat.lt_trichotomy (n0+n) N with h|h|h
    ·exact h
    ·exact absurd ⟨i,by rw[← h]; exact q1⟩ hN
    ·obtain⟨i',i1,_⟩:=badN N h
     exact absurd ⟨i',i1⟩ hN
   have rest:wpAny (model prog w) A (do
     let equal ← holding [Value.ref b] (eqBool (.ref b) (.ref x))
     let (es',_,t') ← setState a
     if true&&equal then return .there none
     let some same:=t'.sameMemory t.moves t.mask|unsupported "set.changed-during-lookup:is-the-new-block-at-the-old-address"
     let still ← match (if same then t'.slot (stp t.mask (n0+n) (startP t.mask (tupleKeyHash (intKind prog w) k))).j else .empty) with
      |.live i'=>match es'[i']? with
       |some (_,y')=>do pure (if ← isSame y' (.ref b) then some i' else none)
       |none=>pure none
      |_=>pure none
     match still with
     |none=>rule "set.search.anew"; setSearchFrom a (.ref x) (tupleKeyHash (intKind prog w) k) true fuel none
     |some i'=>if equal then return .there (some i') else setSearchFrom a (.ref x) (tupleKeyHash (intKind prog w) k) true fuel (some (stp t.mask (n+1) (stp t.mask n0 (startP t.mask (tupleKeyHash (intKind prog w) k)))))) Q E s:=by
    refine wpAny_bind (wpAny_holding (wpAny_eqBool_tuple hu hb hx ?_))
    refine wpAny_bind (wpAny_setState_of ho hd I.fits ?_)
    dsimp only
    by_cases hk:k'=k
    ·subst hk
     simp only[decide_true,Bool.and_self,if_true]
     exact wpAny_pure (ht ⟨i,b,_,he,hb⟩)
    ·have ek:decide (k'=k)=false:=decide_eq_false hk
     simp only[ek,Bool.and_false,Bool.false_eq_true,if_false]
     have em:t.sameMemory t.moves t.mask=some true:=by unfold SetTable.sameMemory; simp
     rw[em]
     dsimp only
     simp only[if_true]
     rw[slot_live I.tb q1]
     dsimp only
     rw[he]
     dsimp only
     refine wpAny_bind (wpAny_isSame_ref_self ?_)
     simp only[if_true]
     refine wpAny_bind (wpAny_pure ?_)
     dsimp only
     refine search_ok hu ho hd I hes hx hf ht N hN fuel (n0+n+1) _ ?_ (by omega) (by omega) fun m hm'=>?_
     ·show stp t.mask (n+1) (stp t.mask n0 _)=_
      rw[← stp_add]; rfl
     ·rcases Nat.lt_or_ge m (n0+n) with h|h
      ·exact badN m h
      ·have:m=n0+n:=by omega
       subst this
       refine⟨i,q1,fun e b1 k1 he1 hb1 hk1 z=>hk ?_⟩
       rw[he]at he1
       cases he1
       cases hb1
       rw[hb.inj hk1,z]
   have seen:∀ y∈(es.filter (·.1==tupleKeyHash (intKind prog w) k)).toList.map (·.2),∃ b k,y=.ref b∧IsTupleKey (intKind prog w) s.heap k b:=fun y hy=>by
    obtain⟨e,h1,rfl⟩:=List.mem_map.mp hy
    have h2:e∈es.toList:=by
     rw[Array.toList_filter]at h1
     exact(List.mem_filter.mp h1).1
    obtain⟨i',hi',e1⟩:=List.getElem_of_mem h2
    obtain⟨b',k1,e2,q⟩:=hes i' e (by rw[← Array.getElem?_toList,List.getElem?_eq_getElem hi',e1])
    exact⟨b',k1,by rw[e2],q⟩
   cases hl:t.led with
   |true=>
    simp only[Bool.not_true,Bool.false_eq_true,if_false]
    rw[he]
    exact rest
   |false=>
    simp only[Bool.not_false,if_true]
    refine wpAny_bind (wp_seen hx seen ?_)
    simp only[Bool.false_eq_true,if_false]
    rw[he]
    exact rest
end
end ST
end
section
namespace ST
open PySem SetTable
section
variable {prog:Program}{w:World}{A:Around}{E:Value→Shared→Prop}{s:Shared}
def TS(prog:Program)(w:World)(h:Heap)(a:Addr)(S:List (List Int)):Prop:=∃ o es ep t,h.get? a=some o∧o.ExactSet∧o.data=.set es ep t∧SI t es∧Els prog w h es∧es.size=S.length∧
 (∀ k,k∈S↔∃ g b,(g,Value.ref b)∈es.toList∧IsTupleKey (intKind prog w) h k b)∧(t.mask=7→es.size≤4)
theorem key_keeps{h h':Heap}{a b:Addr}{k:List Int}{o:Obj}{es:Array (Int×Value)}{ep:Nat}{t:SetTable}(ho:h.get? a=some o)(hd:o.data=.set es ep t)(hs:Heap.SameBut a h h')(x:IsTupleKey (intKind prog w) h k b):IsTupleKey (intKind prog w) h' k b:=by
 obtain⟨o',items,n,ho',hc,hd',hi⟩:=x
 have hne:b≠a:=by
  rintro rfl
  obtain rfl:o'=o:=Option.some.inj (ho'.symm.trans ho)
  rw[hd]at hd'; exact nomatch hd'
 exact⟨o',items,n,(hs.2 b hne).trans ho',hc,hd',hi⟩
theorem laid_32:SetTable.sizeAbove (SetTable.grown 5)=32:=by decide
theorem relay_ok{a:Addr}{o:Obj}{es:Array (Int×Value)}{ep:Nat}{t:SetTable}{Q:Unit→Shared→Prop}(ho:s.heap.get? a=some o)(hd:o.data=.set es ep t)(I:SI t es)(h5:es.size=5)
  (h:∀ h' o' es' t',Heap.SameBut a s.heap h'→h'.get? a=some o'→(o.ExactSet→o'.ExactSet)→o'.data=.set es' (ep+1) t'→SI t' es'→es'.size=es.size→(∀ e,e∈es'.toList↔e∈es.toList)→t'.mask=31→Q () { s with heap:=h' }) :
  wpAny (model prog w) A (setRelay a (SetTable.grown 5)) Q E s:=by
 unfold setRelay
 refine wpAny_bind (wpAny_setState_of ho hd I.fits ?_)
 dsimp only
 rw[if_neg (by rw[laid_32]; decide)]
 obtain⟨t',order,e1,I',z,mem,mk⟩:=laid_ok (f:=t.finger) (mv:=t.movedTo (SetTable.sizeAbove (SetTable.grown 5) - 1)) (led:=t.led) (plain:=t.plain) (m:=31) (.inr rfl) es (by omega)
 have er:t.relaid (es.map (·.1)) (SetTable.grown 5)=some (t',order):=by
  unfold SetTable.relaid
  rw[laid_32]at e1 ⊢
  exact e1
 rw[er]
 refine wpAny_bind ?_
 change wpAny _ _ (do
  let some (t,order):=(some (t',order):Option (SetTable×Array Nat))|unsupported "internal:set-table-without-room"
  let es':=order.filterMap (es[·]?)
  if es'.size != es.size then unsupported "internal:set-table-lost-an-element"
  pure (es',t)) _ _ _
 dsimp only
 have ez:((order.filterMap (es[·]?)).size != es.size)=false:=by rw[z]; simp
 rw[ez]
 simp only[Bool.false_eq_true,if_false]
 refine wpAny_pure ?_
 refine wpAny_storeSet_of ho hd ?_ (by rw[z,h5,sizeLine_eq]; decide)
 have hg:(s.heap.update a (Obj.putSet (order.filterMap (es[·]?)) t')).get? a=some { o with data:=.set (order.filterMap (es[·]?)) (ep+1) t' }:=by
  have:=Heap.get?_update_self (Obj.putSet (order.filterMap (es[·]?)) t') ho (by rw[putSet_of _ _ hd]; rfl)
  rw[putSet_of _ _ hd]at this; exact this
 exact h _ _ _ _ (Heap.SameBut.update _ a _) hg (fun q=>q) rfl I' z mem mk
theorem j_start{m:Nat}(h:Int):(startP m h).j+(startP m h).more≤m:=by
 have hi:bits h % (m+1)≤m:=Nat.le_of_lt_succ (Nat.mod_lt _ (Nat.succ_pos _))
 obtain⟨r1,r2⟩:=runEnd_le hi
 show bits h % (m+1)+(runEnd m (bits h % (m+1)) - bits h % (m+1))≤m
 omega
theorem j_next{m:Nat}{p:Probe}(h:p.j+p.more≤m):(adv m p).j+(adv m p).more≤m:=by
 unfold adv
 split
 ·show p.j+1+(p.more - 1)≤m; omega
 ·have hi:(leap m p.i p.perturb).1≤m:=Nat.le_of_lt_succ (Nat.mod_lt _ (Nat.succ_pos _))
  obtain⟨r1,r2⟩:=runEnd_le hi
  show(leap m p.i p.perturb).1+(runEnd m (leap m p.i p.perturb).1 - (leap m p.i p.perturb).1)≤m
  omega
theorem j_stp{m:Nat}:∀ (n:Nat){p:Probe},p.j+p.more≤m→(stp m n p).j+(stp m n p).more≤m
 |0,_,h=>h
 |n+1,_,h=>j_stp n (j_next h)
theorem add_ok{a x:Addr}{S:List (List Int)}{k:List Int}{Q:Bool→Shared→Prop}(hu:A.units<cLine)(hT:TS prog w s.heap a S)(hx:IsTupleKey (intKind prog w) s.heap k x)(hl:S.length≤15)
  (h:∀ b h',Heap.SameBut a s.heap h'→TS prog w h' a (if k∈S then S else S++[k])→Q b { s with heap:=h' }) :
  wpAny (model prog w) A (setAddHashed a (.ref x) (tupleKeyHash (intKind prog w) k)) Q E s:=by
 have hT0:=hT
 obtain⟨o,es,ep,t,ho,hex,hd,I,hes,hsz,hmem,h4⟩:=hT
 have ofI:∀ {e:Int×Value},e∈es.toList→∃ i:Nat,es[i]?=some e:=fun {e} he=>by
  obtain⟨i,hi,e1⟩:=List.getElem_of_mem he
  exact⟨i,by rw[← Array.getElem?_toList,List.getElem?_eq_getElem hi,e1]⟩
 unfold setAddHashed setAddHashedIn
 refine wpAny_holding (wpAny_bind (wpAny_setState_of ho hd I.fits ?_))
 dsimp only
 have eb:byScan (.ref x) es=false:=rfl
 rw[eb]
 simp only[Bool.false_eq_true,if_false]
 obtain⟨fr,hfr,hfo⟩:=some_free I.tb
 obtain⟨N,hN,eN⟩:=hits I.tb.mask (Okp.start (tupleKeyHash (intKind prog w) k)) hfr
 refine wpAny_bind ?_
 unfold setSearch
 refine search_ok hu ho hd I hes hx (fun n hbad hfree=>?_) (fun hth=>?_) N (by rw[eN]; exact hfo) 100000 0 none rfl (Nat.zero_le _) ?_ (fun m hm=>by omega)
 ·-- the element is new
  dsimp only
  have hnk:k ∉ S:=fun hk=>by
   obtain⟨g,b,hm,hb⟩:=(hmem k).mp hk
   obtain⟨i,hi⟩:=ofI hm
   obtain⟨b',k',e',hb'⟩:=hes i _ hi
   have e1:g=tupleKeyHash (intKind prog w) k':=congrArg Prod.fst e'
   have e2:b=b':=Value.ref.inj (congrArg Prod.snd e')
   subst e2
   obtain rfl:=hb.inj hb'
   exact absent_of I hbad hfree i _ hi e1 _ b k hi rfl hb rfl
  have hmk:es.size+1≤t.mask:=by
   rcases I.tb.mask with q|q
   ·have:=h4 q; omega
   ·omega
  have hjle:(stp t.mask n (startP t.mask (tupleKeyHash (intKind prog w) k))).j≤t.mask:=Nat.le_trans (Nat.le_add_right _ _) (j_stp n (j_start _))
  generalize hj:(stp t.mask n (startP t.mask (tupleKeyHash (intKind prog w) k))).j=j at *
  have I1:SI (t.put j).1 (insertAt es (t.put j).2 (tupleKeyHash (intKind prog w) k,Value.ref x)):=put_ok I hjle hfree ⟨n,hj,fun m hm=>by obtain⟨i,hi,_⟩:=hbad m hm; exact⟨i,hi⟩⟩ hmk
  refine wpAny_bind (wpAny_setState_of ho hd I.fits ?_)
  dsimp only
  have hp2:(t.put j).2≤es.size:=by rw[put_eq I.tb,← I.sz]; exact(below_spec I.tb.up).2.2
  have hmask:(t.put j).1.mask=t.mask:=by rw[put_eq I.tb]
  have size1:(insertAt es (t.put j).2 (tupleKeyHash (intKind prog w) k,Value.ref x)).size=es.size+1:=ins_size _ _ _ hp2
  have mem1:∀ e,e∈(insertAt es (t.put j).2 (tupleKeyHash (intKind prog w) k,Value.ref x)).toList↔e∈es.toList∨e=(tupleKeyHash (intKind prog w) k,Value.ref x):=fun e=>ins_mem hp2
  have fin:∀ (h':Heap) (es':Array (Int×Value)),Heap.SameBut a s.heap h'→(∀ e,e∈es'.toList↔e∈es.toList∨e=(tupleKeyHash (intKind prog w) k,Value.ref x))→
    Els prog w h' es'∧∀ k',k'∈S++[k]↔∃ g b,(g,Value.ref b)∈es'.toList∧IsTupleKey (intKind prog w) h' k' b:=fun h' es' sb hm=>by
   have kp:∀ {b:Addr}{k':List Int},IsTupleKey (intKind prog w) s.heap k' b→IsTupleKey (intKind prog w) h' k' b:=fun q=>key_keeps ho hd sb q
   refine⟨fun i e he=>?_,fun k'=>?_⟩
   ·rcases (hm e).mp (List.mem_of_getElem? (by rw[Array.getElem?_toList]; exact he)) with q|q
    ·obtain⟨i',hi'⟩:=ofI q
     obtain⟨b,k',e',hb⟩:=hes i' _ hi'
     exact⟨b,k',e',kp hb⟩
    ·exact⟨x,k,q,kp hx⟩
   ·constructor
    ·intro hk
     rcases List.mem_append.mp hk with q|q
     ·obtain⟨g,b,q1,q2⟩:=(hmem k').mp q
      exact⟨g,b,(hm _).mpr (.inl q1),kp q2⟩
     ·rw[List.mem_singleton]at q
      subst q
      exact⟨_,x,(hm _).mpr (.inr rfl),kp hx⟩
    ·rintro⟨g,b,q1,q2⟩
     rcases (hm _).mp q1 with q|q
     ·obtain⟨i',hi'⟩:=ofI q
      obtain⟨b',k'',e',hb⟩:=hes i' _ hi'
      have e2:b=b':=Value.ref.inj (congrArg Prod.snd e')
      subst e2
      obtain rfl:=q2.inj (kp hb)
      exact List.mem_append_left _ ((hmem k').mpr ⟨g,b,q,hb⟩)
     ·have e2:b=x:=Value.ref.inj (congrArg Prod.snd q)
      subst e2
      obtain rfl:=q2.inj (kp hx)
      exact List.mem_append_right _ (by simp)
  have last:∀ (b:Bool) (t2:SetTable),SI t2 (insertAt es (t.put j).2 (tupleKeyHash (intKind prog w) k,Value.ref x))→t2.mask=t.mask→
    wpAny (model prog w) A (do
     storeSet a (insertAt es (t.put j).2 (tupleKeyHash (intKind prog w) k,Value.ref x)) t2
     if (!false&&t2.tooFull)=true then do
      setRelay a (SetTable.grown (es.size+1))
      pure true
     else pure true) Q E s:=fun b t2 I2 hm2=>by
   refine wpAny_bind (wpAny_storeSet_of ho hd ?_ (by rw[size1,sizeLine_eq]; omega))
   have hg:(s.heap.update a (Obj.putSet (insertAt es (t.put j).2 (tupleKeyHash (intKind prog w) k,Value.ref x)) t2)).get? a=some { o with data:=.set (insertAt es (t.put j).2 (tupleKeyHash (intKind prog w) k,Value.ref x)) (ep+1) t2 }:=by
    have:=Heap.get?_update_self (Obj.putSet (insertAt es (t.put j).2 (tupleKeyHash (intKind prog w) k,Value.ref x)) t2) ho (by rw[putSet_of _ _ hd]; rfl)
    rw[putSet_of _ _ hd]at this; exact this
   have sb:=Heap.SameBut.update s.heap a (Obj.putSet (insertAt es (t.put j).2 (tupleKeyHash (intKind prog w) k,Value.ref x)) t2)
   obtain⟨fe,fm⟩:=fin _ _ sb mem1
   have full:t2.tooFull=decide ((es.size+1)*5 ≥ t.mask*3):=by
    unfold SetTable.tooFull SetTable.fill
    rw[I2.tb.dum,I2.sz,size1,hm2]; rfl
   rw[full]
   by_cases hfu:(es.size+1)*5 ≥ t.mask*3
   ·have m7:t.mask=7:=by
     rcases I.tb.mask with q|q
     ·exact q
     ·omega
    have e5:es.size+1=5:=by have:=h4 m7; omega
    simp only[decide_eq_true hfu,Bool.not_false,Bool.and_self,if_true]
    rw[e5]
    refine wpAny_bind (relay_ok (s:={ s with heap:=_ }) hg rfl I2 (by rw[size1,e5]) fun h' o' es' t' sb' ho' hex' hd' I' z' mem' mk'=>wpAny_pure ?_)
    have sb2:=sb.trans sb'
    obtain⟨fe',fm'⟩:=fin h' es' sb2 fun e=>(mem' e).trans (mem1 e)
    refine h true h' sb2 ?_
    rw[if_neg hnk]
    exact⟨o',es',_,t',ho',hex' hex,hd',I',fe',by rw[z',size1,hsz]; simp,fm',fun q=>by rw[mk']at q; cases q⟩
   ·simp only[decide_eq_false hfu,Bool.not_false,Bool.and_false,Bool.false_eq_true,if_false]
    refine wpAny_pure (h true _ sb ?_)
    rw[if_neg hnk]
    exact⟨_,_,_,t2,hg,hex,rfl,I2,fe,by rw[size1,hsz]; simp,fm,fun q=>by rw[size1]; omega⟩
  cases hpl:(t.put j).1.plain with
  |true=>
   simp only[if_true]
   refine wpAny_bind (wp_byValue hx ?_)
   simp only[if_true]
   exact last true _ I1 hmask
  |false=>
   simp only[Bool.false_eq_true,if_false]
   refine wpAny_bind (wpAny_pure ?_)
   simp only[if_true]
   exact last true _ I1 hmask
 ·-- it is there
  dsimp only
  refine wpAny_pure ?_
  obtain⟨i,b,g,hi,hb⟩:=hth
  have hk:k∈S:=(hmem k).mpr ⟨g,b,List.mem_of_getElem? (by rw[Array.getElem?_toList]; exact hi),hb⟩
  have e:s={ s with heap:=s.heap }:=by cases s; rfl
  rw[e]
  exact h false s.heap (Heap.SameBut.refl a s.heap) (by rw[if_pos hk]; exact hT0)
 ·have:t.mask≤31:=by rcases I.tb.mask with q|q<;>omega
  unfold SetTable.turns at hN
  omega
end
end ST
end
section
namespace ST
open PySem SetTable PyProof.Rows
noncomputable def addK(S:List (List Int))(k:List Int):List (List Int):=if k∈S then S else S++[k]
noncomputable def distinct(ks:List (List Int)):List (List Int):=ks.foldl addK []
theorem addK_le(S:List (List Int))(k:List Int):(addK S k).length≤S.length+1:=by unfold addK; split<;>simp
theorem foldK_le:∀ (l S:List (List Int)),(l.foldl addK S).length≤S.length+l.length
 |[],S=>by simp
 |k::l,S=>by
  have:=foldK_le l (addK S k)
  have:=addK_le S k
  rw[List.foldl_cons,List.length_cons]; omega
section
variable {prog:Program}{w:World}{A:Around}{R:Result→Shared→Prop}{I:Addr}{fp wr:List Addr}{G:Array GenState→Array GenState→Prop}{n:Nat}{P:Nat→Value→Prop}{St:Nat→Shared→Prop}
theorem TS.keeps{h h':Heap}{a:Addr}{S:List (List Int)}(x:TS prog w h a S)(hk:∀ b o,(b=a∨∃ k,IsTupleKey (intKind prog w) h k b)→h.get? b=some o→h'.get? b=some o):TS prog w h' a S:=by
 obtain⟨o,es,ep,t,ho,hex,hd,I,hes,hsz,hmem,h4⟩:=x
 have kp:∀ {b:Addr}{k':List Int},IsTupleKey (intKind prog w) h k' b→IsTupleKey (intKind prog w) h' k' b:=fun {b k'} q=>by
  obtain⟨o',items,n,ho',r⟩:=id q
  exact⟨o',items,n,hk b o' (.inr ⟨k',q⟩) ho',r⟩
 refine⟨o,es,ep,t,hk a o (.inl rfl) ho,hex,hd,I,fun i e he=>?_,hsz,fun k=>?_,h4⟩
 ·obtain⟨b,k,e',q⟩:=hes i e he
  exact⟨b,k,e',kp q⟩
 ·rw[hmem k]
  constructor
  ·rintro⟨g,b,q1,q2⟩; exact⟨g,b,q1,kp q2⟩
  ·rintro⟨g,b,q1,q2⟩
   obtain⟨i,hi,e1⟩:=List.getElem_of_mem q1
   obtain⟨b',k',e',q⟩:=hes i (g,.ref b) (by rw[← Array.getElem?_toList,List.getElem?_eq_getElem hi,e1])
   have e2:b=b':=Value.ref.inj (congrArg Prod.snd e')
   subst e2
   obtain rfl:=q2.inj (kp q)
   exact⟨g,b,q1,q⟩
theorem loop_ok(hu:A.in1.units<cLine)(W:WalksS prog w A.in1 I fp wr G n P St)(S:Addr)(hSf:S ∉ fp)(hwr:∀ b∈wr,∀ s i,St i s→¬ ∃ k,IsTupleKey (intKind prog w) s.heap k b)
  (ks:List (List Int)) (hn:ks.length=n) (hn16:n≤16) (hval:∀ i v,P i v→∃ b,v=.ref b) (Kp:Shared→Prop) (hkp:∀ s i b,Kp s→P i (.ref b)→∃ k,ks[i]?=some k∧IsTupleKey (intKind prog w) s.heap k b)
  (hkk:∀ s s',Kp s→(∀ b o,(∃ k,IsTupleKey (intKind prog w) s.heap k b)→s.heap.get? b=some o→s'.heap.get? b=some o)→Kp s') :
  ∀ (k i:Nat) (s:Shared),n - i=k→i≤n→St i s→Kp s→TS prog w s.heap S ((ks.take i).foldl addK [])→
   (∀ s',Moved (S::wr) G s s'→TS prog w s'.heap S (distinct ks)→R (.ok (.ret .none)) s')→
   codeAny (model prog w) A (.builtin "set.update.loop" ⟨[.ref S,.ref I],[]⟩) R s:=by
 have hSw:S ∉ wr:=fun h=>hSf (W.sub _ h)
 have hsub:∀ b∈wr,b∈S::wr:=fun b hb=>List.mem_cons_of_mem _ hb
 have tsk:∀ {s s':Shared}{i:Nat}{L:List (List Int)},St i s→Moved wr G s s'→TS prog w s.heap S L→TS prog w s'.heap S L:=fun {s s' i L} st hm x=>x.keeps fun b o hb ho=>hm.heap b o (fun hw=>by
  rcases hb with rfl|hb
  ·exact hSw hw
  ·exact hwr b hw s i st hb) ho
 intro k
 induction k with
 |zero=>
  intro i s hk hi hst hKp hS hR
  have hin:i=n:=by omega
  subst hin
  refine codeAny_builtin F.entry_set_update_loop ?_
  rw[Around.under_plainId F.plain_set_update_loop _]
  show wpAny _ A.in1 (pyNext (.ref I) >>= _) _ _ s
  refine wpAny_bind (W.done s _ _ hst fun s' hm=>?_)
  show wpAny _ A.in1 (ret Value.none) _ _ s'
  refine wpAny_pure (hR s' (hm.mono hsub) (tsk hst hm ?_))
  rw[← hn,List.take_length]at hS
  exact hS
 |succ k ih=>
  intro i s hk hi hst hKp hS hR
  have hlt:i<n:=by omega
  refine codeAny_builtin F.entry_set_update_loop ?_
  rw[Around.under_plainId F.plain_set_update_loop _]
  show wpAny _ A.in1 (pyNext (.ref I) >>= _) _ _ s
  refine wpAny_bind (W.item i s _ _ hlt hst fun v s' hP hst' hm=>?_)
  obtain⟨b,rfl⟩:=hval i v hP
  have hKp':Kp s':=hkk s s' hKp fun b' o hb ho=>hm.heap b' o (fun hw=>hwr b' hw s i hst hb) ho
  obtain⟨key,hkey,hb⟩:=hkp s' i b hKp' hP
  have hS':=tsk hst hm hS
  show wpAny _ A.in1 (holding [Value.ref b] (setAdd S (.ref b)) >>= _) _ _ s'
  refine wpAny_bind (wpAny_holding ?_)
  unfold setAdd
  refine wpAny_holding ?_
  refine wpAny_bind (wpAny_pyHash_tuple hu hb ?_)
  have hlen:((ks.take i).foldl addK []).length≤15:=by
   have:=foldK_le (ks.take i) []
   rw[List.length_take]at this
   simp at this
   omega
  have htk:(ks.take (i+1)).foldl addK []=addK ((ks.take i).foldl addK []) key:=by
   rw[List.take_succ,hkey,List.foldl_append]; rfl
  refine add_ok (s:={ s' with toks:=s'.toks+(key.length+1) }) hu hS' hb hlen fun _ h' hsb hS2=>?_
  have hS3:TS prog w h' S ((ks.take (i+1)).foldl addK []):=by rw[htk]; exact hS2
  have noS:∀ {b':Addr},(∃ k,IsTupleKey (intKind prog w) s'.heap k b')→b'≠S:=fun {b'} ⟨k',q⟩ z=>by
   obtain⟨o,es,ep,t,ho,_,hd,_⟩:=hS'
   obtain⟨o',items,m,ho',_,hd',_⟩:=q
   rw[z]at ho'
   obtain rfl:o'=o:=Option.some.inj (ho'.symm.trans ho)
   rw[hd]at hd'; exact nomatch hd'
  refine wpAny_pure ⟨plainId_quiet F.plain_set_update_loop _,ih (i+1) _ (by omega) hlt (W.frame _ s' _ _ hst' (Nat.le_add_right _ _) fun b hb o e=>?_) (hkk s' _ hKp' fun b' o hb' ho'=>(hsb.2 b' (noS hb')).trans ho') hS3 fun s'' hm'' hS''=>?_⟩
  ·rw[hsb.2 b (fun h:b=S=>hSf (by rw[← h]; exact hb))]; exact e
  ·refine hR s'' (Moved.trans W.gtrans ((hm.mono hsub).then_heap (Nat.le_add_right _ _) fun b o hb e=>?_) hm'') hS''
   rw[hsb.2 b (fun h:b=S=>hb (by rw[h]; exact List.mem_cons_self))]; exact e
end
end ST
end
section
namespace ST
open PySem SetTable
theorem tupNoSet:isSubtype (.type "tuple") (.type "set")=pure false:=by rw[isSubtype_type]; kernel_rfl
theorem tupNoFrozen:isSubtype (.type "tuple") (.type "frozenset")=pure false:=by rw[isSubtype_type]; kernel_rfl
noncomputable abbrev bare(led:Bool):Obj:={ cls:=.type "set",dict:=none,data:=.set #[] 0 (.fresh 0 0 led) }
def Cells(prog:Program)(w:World)(h:Heap)(items:Array Value)(ks:List (List Int)):Prop:=∀ (i:Nat) (v:Value),items[i]?=some v→∃ b k,v=.ref b∧ks[i]?=some k∧IsTupleKey (intKind prog w) h k b
section
variable {prog:Program}{w:World}{E:Value→Shared→Prop}
theorem init_tup{B:Around}{h0:Heap}{led:Bool}{l:Addr}{items:Array Value}{ks:List (List Int)}{s:Shared}{Z:Fin→Shared→Prop}(calm:B.handled=none)(room:B.units+4<cLine)(tup:h0.IsTuple l items)(cells:Cells prog w h0 items ks)
  (n1:ks.length=items.size) (n2:items.size≤16) (hs:s.heap=h0.push (bare led))
  (done:∀ h1 k1,TS prog w h1 h0.objs.size (distinct ks)→(∀ b o,b<h0.objs.size→h0.get? b=some o→h1.get? b=some o)→Z (.done (.ret .none)) { s with heap:=h1,toks:=k1 }) :
  wpAny (model prog w) B (Builtin.«set.__init__» ⟨[.ref h0.objs.size,.ref l],[]⟩) Z E s:=by
 obtain⟨hp,gs,dr,tk,os⟩:=s
 dsimp only at hs done
 subst hs
 obtain⟨⟨tc,td,tdat,tsl⟩,t1,t2,nl,t3⟩:=id tup
 dsimp only at t2 t3
 subst t2 t3
 have at0:(h0.push (bare led)).get? h0.objs.size=some (bare led):=Heap.get?_push_size _ rfl
 have atL:=Heap.get?_push_of_some (bare led) t1
 have a1:=tupNoSet
 have a2:=tupNoFrozen
 have a3:(Value.type "tuple" == Value.type "dict")=false:=by decide
 have isT:Shared.TypeIs ⟨h0.push (bare led),gs,dr,tk,os⟩ (.ref h0.objs.size) "set":=⟨_,at0,rfl⟩
 have tupP:(h0.push (bare led)).IsTuple l items:=⟨_,atL,rfl,nl,rfl⟩
 unfold Builtin.«set.__init__» noKeywords Builtin.Frozenset.updateFrom
 generalize ei:pyIter=walk
 wp_walk
 subst ei
 refine wpAny_pyIter_tuple tupP (wpAny_bind (wpAny_runValue ?_))
 have lt0:l<h0.objs.size:=Heap.lt_size t1
 have sz:(h0.push (bare led)).objs.size=h0.objs.size+1:=Heap.size_push ..
 have nI:l≠(h0.push (bare led)).objs.size:=by rw[sz]; exact Nat.ne_of_lt (Nat.lt_succ_of_lt lt0)
 have nS:h0.objs.size ∉ [(h0.push (bare led)).objs.size,l]:=by
  rw[sz]
  simp only[List.mem_cons,List.not_mem_nil,or_false,not_or]
  exact⟨Nat.ne_of_lt (Nat.lt_succ_self _),Nat.ne_of_gt lt0⟩
 refine loop_ok (by show B.units+1<cLine; omega) ((Walks.tuple (by simp[calm]) _ l nI items).toS) h0.objs.size nS ?notKey ks n1 n2 (fun i v hv=>?isRef)
  (fun z=>∀ (i:Nat) (b:Addr),items[i]?=some (.ref b)→∃ k,ks[i]?=some k∧IsTupleKey (intKind prog w) z.heap k b) (fun z i b q hp=>q i b hp) ?stay items.size 0 _ rfl (Nat.zero_le _) ⟨⟨_,Heap.get?_push_size _ rfl,rfl,rfl⟩,?tup2⟩ ?keys ?empty ?fin
 case isRef=>obtain⟨b,_,e,_⟩:=cells i v hv; exact⟨b,e⟩
 case tup2=>obtain⟨ob,e1,e2⟩:=tupP; exact⟨ob,Heap.get?_push_of_some _ e1,e2⟩
 case notKey=>
  rintro b hb z i ⟨⟨ob,u1,_,u3⟩,_⟩ ⟨_,oc,_,_,v1,_,v3,_⟩
  rw[List.mem_singleton.mp hb,u1]at v1
  cases v1
  rw[u3]at v3
  cases v3
 case stay=>
  intro z1 z2 q keep i b hb
  obtain⟨k,e,y⟩:=q i b hb
  obtain⟨oc,it,m,v1,r⟩:=id y
  exact⟨k,e,oc,it,m,keep b oc ⟨k,y⟩ v1,r⟩
 case keys=>
  intro i b hb
  obtain⟨b',k,e,ek,oc,it,m,v1,r⟩:=cells i _ hb
  cases e
  exact⟨k,ek,oc,it,m,Heap.get?_push_of_some _ (Heap.get?_push_of_some _ v1),r⟩
 case empty=>exact⟨_,#[],0,_,Heap.get?_push_of_some _ at0,⟨rfl,rfl,rfl⟩,rfl,fresh_ok led,fun i e he=>by simp at he,rfl,fun k=>by simp,fun _=>by simp⟩
 case fin=>
  intro z mv q
  obtain⟨h1,gs',dr',tk',os'⟩:=z
  obtain⟨m1,rfl,rfl,rfl,_⟩:=mv
  refine wpAny_pure (wpAny_pure (done h1 tk' q fun b o hb e=>m1 b o ?_ (Heap.get?_push_of_some _ (Heap.get?_push_of_some _ e))))
  have nb1:b≠h0.objs.size:=Nat.ne_of_lt hb
  have nb2:b≠(h0.push (bare led)).objs.size:=by rw[sz]; exact Nat.ne_of_lt (Nat.lt_succ_of_lt hb)
  simp only[List.mem_cons,List.not_mem_nil,or_false,not_or]
  exact⟨nb1,nb2⟩
end
end ST
end
section
namespace ST
open PySem SetTable
section
variable {prog:Program}{w:World}{A:Around}{E:Value→Shared→Prop}{s:Shared}
theorem TS.size{h:Heap}{a:Addr}{S:List (List Int)}(x:TS prog w h a S)(hS:S.length≤16):∃ o es ep t,h.get? a=some o∧o.ExactSet∧o.data=.set es ep t∧t.fits es.size=true∧(es.size:Int)<2 ^ 63∧es.size=S.length:=by
 obtain⟨o,es,ep,t,ho,hex,hd,I,_,hz,_⟩:=x
 exact⟨o,es,ep,t,ho,hex,hd,I.fits,by omega,hz⟩
theorem set_call{l:Addr}{items:Array Value}{ks:List (List Int)}{Q:Value→Shared→Prop}(calm:A.handled=none)(room:A.units+12<cLine)(tup:s.heap.IsTuple l items)(cells:Cells prog w s.heap items ks)(n1:ks.length=items.size)(n2:items.size≤16)
  (k:∀ h1 k1,TS prog w h1 s.heap.objs.size (distinct ks)→(∀ b o,b<s.heap.objs.size→s.heap.get? b=some o→h1.get? b=some o)→Q (.ref s.heap.objs.size) { s with heap:=h1,toks:=k1 }) :
  wpAny (model prog w) A (call (.type "set") [.ref l]) Q E s:=by
 have ft:=F.called_set
 obtain⟨_,_,f1⟩:=ft.mro
 have f2:=ft.made
 have f3:=ft.sub
 have f4:=ft.notType
 have f5:=ft.canCreate
 have f6:=F.typeCall_set_1 (.ref l)
 refine wpAny_call (codeAny_of_tree (show wpAny _ _ (callAny (.type "set") _) _ _ _ from wpAny_pure ⟨Code.quiet_builtin _ (by decide +kernel),codeAny_builtin F.entry_type_call ?_⟩))
 rw[Around.under_plain (weight_type_call_type "set" [.ref l] []) rfl]
 repeat (any_goals (first|assumption|wp_step))
 refine codeAny_mono (code_set_new_1 (.ref l) (E:=E) (Q₁:=fun ob z=>∃ led,ob=.ref s.heap.objs.size∧z={ s with heap:=s.heap.push (bare led) }) fun led=>⟨led,rfl,rfl⟩) fun r z hr=>?_
 match r,hr with
 |.error _,hr=>exact hr
 |.ok .next,hr=>exact hr.elim
 |.ok .brk,hr=>exact hr.elim
 |.ok .cont,hr=>exact hr.elim
 |.ok (.ret ob),hr=>
  obtain⟨led,rfl,rfl⟩:=hr
  have isT:Shared.TypeIs { s with heap:=s.heap.push (bare led) } (.ref s.heap.objs.size) "set":=⟨_,Heap.get?_push_size _ rfl,rfl⟩
  have f7:=ft.init.lookup
  have f8:=ft.init.bind (.ref s.heap.objs.size)
  repeat (any_goals (first|assumption|wp_step))
  refine codeAny_mono (codeAny_call_builtin (R:=wants (fun r z=>r=.none∧∃ h1 k1,z={ s with heap:=h1,toks:=k1 }∧TS prog w h1 s.heap.objs.size (distinct ks)∧∀ b o,b<s.heap.objs.size→s.heap.get? b=some o→h1.get? b=some o) E) ft.init.plain F.entry_set_init (check_set_init_1 isT ?_)) fun r2 z2 hr2=>?_
  ·exact init_tup (led:=led) (by simp[calm]) (by show A.units+1+1+4<cLine; omega) tup cells n1 n2 rfl fun h1 k1 q keep=>⟨rfl,h1,k1,rfl,q,keep⟩
  ·match r2,hr2 with
   |.error _,hr2=>exact hr2
   |.ok .next,hr2=>exact hr2.elim
   |.ok .brk,hr2=>exact hr2.elim
   |.ok .cont,hr2=>exact hr2.elim
   |.ok (.ret _),hr2=>
    obtain⟨rfl,h1,k1,rfl,q,keep⟩:=hr2
    repeat (any_goals (first|assumption|wp_step))
    exact k h1 k1 q keep
end
end ST
end
section
namespace MS
open PySem PySem.Spec PyProof.Rows L2
noncomputable def setO(a:Addr)(n:Nat):HO:=.ext fun h=>∃ o es ep t,h.get? a=some o∧o.ExactSet∧o.data=.set es ep t∧t.fits es.size=true∧(es.size:Int)<2 ^ 63∧es.size=n
def CellV(K:PySem.W.Frag)(H:Hp):List V→List (List Int)→Prop:=Paired fun y k=>∃ q,y=.ref q∧SqT K H q (k.map V.int)
theorem items_int{prog:Program}{w:World}:∀ {k:List Int}{its:List Value},Vals (k.map V.int) its→ItemsAre (intKind prog w) k its
 |[],_,h=>by cases h; exact .nil
 |i::k,_,h=>by
  cases h with
  |cons r t=>
   obtain⟨t',rfl⟩:=r
   exact .cons (intKind_is _ _ _ _) (items_int t)
section
variable {X:Cx}
theorem tkey_of{pins:List (Addr×Obj)}{σ:L2.St}{H:Hp}{s:Shared}(I:Inv X pins σ H s){q:Addr}{k:List Int}(h:SqT X.K H q (k.map V.int)):IsTupleKey (intKind X.prog X.w) s.heap k q:=by
 obtain⟨its,r,⟨o,ho,hc,n,hd⟩,_⟩:=I.tuple h
 exact⟨o,its.toArray,n,ho,hc,hd,items_int r⟩
theorem cells_of{pins:List (Addr×Obj)}{σ:L2.St}{H:Hp}{s:Shared}(I:Inv X pins σ H s):∀ {ys:List V}{ks:List (List Int)}{its:List Value},CellV X.K H ys ks→Vals ys its→
  ∀ (i:Nat) (v:Value),its[i]?=some v→∃ b k,v=.ref b∧ks[i]?=some k∧IsTupleKey (intKind X.prog X.w) s.heap k b
 |_,_,_,.nil,r,i,v,e=>by cases r; simp at e
 |_,_,_,.cons (a:=y) (b:=k) h t,r,i,v,e=>by
  cases r with
  |cons r1 r2=>
   obtain⟨q,rfl,hq⟩:=h
   cases i with
   |zero=>
    simp at e
    subst e
    cases r1
    exact⟨q,k,rfl,rfl,tkey_of I hq⟩
   |succ i=>
    simp only[List.getElem?_cons_succ]at e ⊢
    exact cells_of I t r2 i v e
theorem call_setT(calm:X.A.handled=none)(room:X.A.units+64<cLine):CallR X (.type "set") (fun xs H Q=>∃ p ys ks,xs=[.ref p]∧SqT X.K H p ys∧CellV X.K H ys ks∧ys.length≤16∧∀ l,H l=none→Q (.ref l) (upd H l (setO l (ST.distinct ks).length))):=by
 intro pins s σ H xs us Q I r h
 obtain⟨p,ys,ks,rfl,hq,hc,hl,q⟩:=h
 obtain⟨u,rfl,rx⟩:=vals1 r
 cases rx
 obtain⟨its,r',⟨o,ho,hcl,n,hd⟩,hz⟩:=I.tuple hq
 have l1:=r'.length
 have l2:ys.length=ks.length:=Paired.length hc
 refine ST.set_call (items:=its.toArray) (ks:=ks) calm (by omega) ⟨o,ho,hcl,n,hd⟩ (fun i v e=>cells_of I hc r' i v (by simpa using e)) (by simp; omega) (by simp; omega) fun h1 k1 T keep=>?_
 have le:=ST.foldK_le ks []
 obtain⟨o1,es,ep,t,a1,a2,a3,a4,a5,a6⟩:=T.size (by
  show(ks.foldl ST.addK []).length≤16
  simp at le; omega)
 refine⟨.ref s.heap.objs.size,_,I.laid (t':=k1) (fun b o e=>keep b o (Heap.lt_size e) e) (Nat.le_refl _) ?_,rfl,q _ (I.hok.fresh (Nat.le_refl _))⟩
 exact⟨⟨o1,es,ep,t,a1,a2,a3,a4,a5,a6⟩,⟨o1,a1⟩,fun h2 h3 ⟨o2,es2,ep2,t2,b1,b2⟩ kp=>⟨o2,es2,ep2,t2,kp o2 b1,b2⟩⟩
theorem call_lenS:CallR X (.builtin "len") (fun xs H Q=>∃ p n,xs=[.ref p]∧H p=some (setO p n)∧Q (.int n) H):=by
 intro pins s σ H xs us Q I r h
 obtain⟨p,n,rfl,hp,q⟩:=h
 obtain⟨u,rfl,rx⟩:=vals1 r
 cases rx
 obtain⟨⟨o,es,ep,t,a1,a2,a3,a4,a5,a6⟩,_⟩:=(show ObjOk X.prog X.w H s.heap p (setO p n) from I.hok p _ hp)
 refine call_len_set a1 a2 a3 a4 a5 ?_
 exact⟨.int n,H,I.kept (t':=s.toks+1+1) (fun b o e=>e),⟨_,by rw[a6]⟩,q⟩
end
end MS
end
section
namespace MS
open PySem PySem.Spec PyProof.Rows L2
open M (D Store)
section
variable {X:Cx}
theorem op_catE:OpR X (binaryOp .Add) (rD X.K M.catT):=by
 intro pins s σ H x y v u Q I rx ry h
 refine h.el fun m st a b d st' R0 i1 i2 e q=>?_
 unfold M.catT at e
 split at e
 ·rename_i as bs
  split at e
  ·cases e
  ·rename_i hc
   cases e
   obtain⟨pa,xs,rfl,hx,ix⟩:=i1.tup
   obtain⟨pb,ys,rfl,hy,iy⟩:=i2.tup
   have l1:=ix.length
   have l2:=iy.length
   have l3:=lim_eq
   by_cases ha:xs=[]
   ·subst ha
    have ea:as=[]:=List.length_eq_zero_iff.mp l1
    subst ea
    cases rx
    cases ry
    obtain⟨t1,r1,p1,_⟩:=I.tuple hx
    obtain⟨t2,r2,p2,_⟩:=I.tuple hy
    cases r1
    obtain⟨⟨c1,d1,b1,s1⟩,o1,k1,n1,e1⟩:=p1
    obtain⟨⟨c2,d2,b2,s2⟩,o2,k2,n2,e2⟩:=p2
    simp only at k1 e1 k2 e2
    subst k1 e1 k2 e2
    exact concat_meets ⟨_,o1,rfl⟩ ⟨_,o2,rfl⟩ noFill_tuple_add seq_tuple_add PySem.F.slot_tuple_add PySem.F.entry_tuple_add (PySem.F.args_tuple_add_2 _ _)
     (tuple_addW0 pa pb #[] t2.toArray n1 n2 d1 d2 s1 s2 rfl) ⟨o1,o2,⟨.ref pb,H,I,rfl,q.here R0 (mkTup hy iy)⟩⟩
   ·refine op_catT pins s σ H _ _ v u Q I rx ry ⟨pa,pb,xs,ys,rfl,rfl,hx,hy,ha,by omega,fun z=>?_,fun z p hp=>?_⟩
    ·have i3:=ix.append iy
     rw[z,List.append_nil]at i3
     exact q.here R0 (mkTup hx i3)
    ·have sm:=same_new (o:=.tup (xs++ys)) hp
     exact q _ m _ (Sub.refl m) (Tr.of_same sm) (R0.same sm) (mkTup (SqT.of upd_same) (isDs_mono (Sub.refl m) (Tr.of_same sm) _ _ (ix.append iy)))
 ·cases e
theorem key_ints{K:PySem.W.Frag}{m:List Addr}{H:Hp}:∀ {ds:List D}{xs:List V}{k:List Int},IsDs K m H ds xs→(ds.mapM fun d=>match d with|.int i=>some i|_=>none)=some k→xs=k.map V.int
 |[],xs,k,h,e=>by
  simp at e
  subst e
  exact List.length_eq_zero_iff.mp h.length.symm
 |d::ds,xs,k,h,e=>by
  rw[List.mapM_cons]at e
  cases d with
  |int i=>
   obtain⟨x,r,rfl,h1,h2⟩:=h.cons
   cases e2:(ds.mapM fun d=>match d with|M.D.int i=>some i|_=>none) with
   |none=>rw[e2]at e; cases e
   |some k'=>
    rw[e2]at e
    cases e
    rw[h1.int,key_ints h2 e2]; rfl
  |_=>cases e
theorem keys_of{K:PySem.W.Frag}{m:List Addr}{H:Hp}:∀ {ds:List D}{xs:List V}{ks:List (List Int)},IsDs K m H ds xs→ds.mapM M.keyD=some ks→CellV K H xs ks
 |[],xs,ks,h,e=>by
  simp at e
  subst e
  rw[List.length_eq_zero_iff.mp h.length.symm]
  exact .nil
 |d::ds,xs,ks,h,e=>by
  rw[List.mapM_cons]at e
  cases d with
  |tup cs=>
   obtain⟨x,r,rfl,h1,h2⟩:=h.cons
   cases e1:M.keyD (.tup cs) with
   |none=>rw[e1]at e; cases e
   |some k=>
    cases e2:ds.mapM M.keyD with
    |none=>rw[e1,e2]at e; cases e
    |some ks'=>
     rw[e1,e2]at e
     cases e
     obtain⟨pa,ys,rfl,hq,iy⟩:=h1.tup
     refine .cons ⟨pa,rfl,?_⟩ (keys_of h2 e2)
     rw[← key_ints iy e1]; exact hq
  |_=>cases e
end
end MS
end
section
namespace MS
open PySem PySem.Spec PyProof.Rows L2
open M (D Cell Store Sl E S T Src Fn Out R)
theorem ps_setComp{X:Cx}{elt tg iter:Expr}{ifs:List Expr}{scope:Scope}{pos pos' cpos:Pos}{N:List Str}{src:List (Option Nat)}{wi:TI}{g:TG}{tt:TT}{te:TE}{i:Nat}{x:Str}(hc:X.calm=true)(S:CompScope X N src scope)(hi:PI X tg iter wi)
  (hg:∀ C fp s H,PG (cxComp X N scope C fp s H) tg g) (ht:∀ C fp s H,TestR (cxComp X N scope C fp s H) ifs tt) (he:∀ C fp s H,PE (cxComp X N scope C fp s H) elt te)
  (hs:∀ x,foldedSetIterable iter X.env x=pure x) (hN:X.N.Nodup) (hx:X.N[i]?=some x) (hl:Loc X.env.scope x) (hf:X.fn x=true∨X.env.scope.names.lookup x=some .local)
  (hsw:swapsWith (.ListComp elt [⟨tg,iter,ifs,0⟩] scope cpos) (some (.Name x pos')) pos.line X.env=pure true) :
  PS X (.Assign [.Name x pos'] (.ListComp elt [⟨tg,iter,ifs,0⟩] scope cpos) pos) (tAsg (tComp src wi g tt te) (gName i)):=by
 intro pins s σ H D I h
 rw[exec_Assign_Name_used _ _ _ _ hsw]
 refine wpAny_bind (wpAny_standAt (wpAny_bind ?_))
 show wpAny _ X.A (do let _ ← comprehension (.ListComp elt [⟨tg,iter,ifs,0⟩] scope cpos) scope X.env _ (newList []) false (eval iter X.env) (some (assign (.Name x pos') X.env))) _ _ s
 refine wpAny_bind (wpAny_mono (wpAny_comprehension_free (use:=some (assign (.Name x pos') X.env)) (Q:=fun _ s'=>SP X pins D .next s') rfl hs (comp_clos S I) S.kind S.loc (thn (hi pins s σ H _ I h) fun v s1 h1=>thn h1 fun itv s2 h2=>?_)) (fun _ s' hq=>wpAny_pure (wpAny_pure hq)) fun _ _ e=>e)
 obtain⟨it,fp,tn,J,H2,e,I2,T,st2,f2,W,w0,turn⟩:=h2
 subst e
 refine comp_block hc I2 T st2 f2 S (fun C=>hg C fp s2 H2) (fun C=>ht C fp s2 H2) (fun C=>he C fp s2 H2) W w0 turn ?_
 intro Dd C s' H' acc fin nD I' fC hm
 obtain⟨m',hn⟩:=hm
 obtain⟨c0,c1,c2,c3,c4,c5⟩:=fC
 show wpAny _ X.A (assign (.Name x pos') X.env (.ref Dd)) _ _ _
 refine wpAny_assign_Name (store_ok2 I' hN hx hl (show RelV (.ref Dd) (.ref Dd) from rfl) (fun s'' I'' hsb=>?_) hf)
 obtain⟨a,sb,ha⟩:=hsb
 have hCa:C≠a:=by
  rcases ha with z|z
  ·rw[z]; exact c1
  ·exact fun q=>c4 x a z q.symm
 refine⟨m',hn.sameBut sb hCa,fun h' sb'=>?_⟩
 exact⟨_,_,I''.turned (t':=s''.toks) (fun b o hb e=>(sb'.2 b hb).trans e) c0 c1 c3 c4 c5,fin Dd nD⟩
noncomputable def iSeq(K:PySem.W.Frag)(tl:TE):TI:=fun σ H R=>tl σ H fun x H1=>(∃ a,x=.ref a∧(((∃ xs,SqL K H1 a xs)∧R (Itl K a) H1)∨((∃ xs,SqT K H1 a xs)∧R (Itt K a) H1)))∨∃ z,x=.str z∧z.cps.all (· < 128)=true∧R (Its z) H1
theorem pi_seq{X:Cx}{tg l:Expr}{tl:TE}(hl:PE X l tl):PI X tg l (iSeq X.K tl):=by
 intro pins s σ H R I h
 refine thn (hl pins s σ H _ I h) fun v s1 ⟨x,H1,I1,r1,q1⟩=>?_
 rcases q1 with⟨a,e,q⟩|⟨z,e,ha,q⟩
 ·subst e
  cases r1
  rcases q with⟨⟨xs,hq⟩,q⟩|⟨⟨xs,hq⟩,q⟩
  ·obtain⟨its,rv,p,hz⟩:=I1.list hq
   refine wpAny_pyIter_list p.isList ?_
   refine⟨s1.heap.objs.size,[s1.heap.objs.size],_,_,H1,rfl,I1.kept (t':=s1.toks) fun b o e=>Heap.get?_push_of_some _ e,turn_list a _,⟨_,Heap.get?_push_size _ rfl,rfl,rfl⟩,fun b hb=>?_,q⟩
   have e:b=s1.heap.objs.size:=by simpa using hb
   subst e
   exact I1.fpOk (Nat.le_refl _) (I1.hok.fresh (Nat.le_refl _))
  ·obtain⟨its,rv,p,hz⟩:=I1.tuple hq
   refine wpAny_pyIter_tuple (show s1.heap.IsTuple a its.toArray from p) ?_
   refine⟨s1.heap.objs.size,[s1.heap.objs.size],_,_,H1,rfl,I1.kept (t':=s1.toks) fun b o e=>Heap.get?_push_of_some _ e,turn_tuple a _,⟨_,Heap.get?_push_size _ rfl,rfl,rfl⟩,fun b hb=>?_,q⟩
   have e:b=s1.heap.objs.size:=by simpa using hb
   subst e
   exact I1.fpOk (Nat.le_refl _) (I1.hok.fresh (Nat.le_refl _))
 ·subst e
  obtain⟨t,rfl⟩:=r1
  refine wpAny_pyIter_ascii ha ?_
  refine⟨s1.heap.objs.size,[s1.heap.objs.size],_,_,H1,rfl,I1.kept (t':=s1.toks) fun b o e=>Heap.get?_push_of_some _ e,turn_text z t _,⟨_,Heap.get?_push_size _ rfl,rfl,rfl⟩,fun b hb=>?_,q⟩
  have e:b=s1.heap.objs.size:=by simpa using hb
  subst e
  exact I1.fpOk (Nat.le_refl _) (I1.hok.fresh (Nat.le_refl _))
structure Glo where
 cs:List (Str×D)
 ds:List (Str×List Str×List D)
structure Ctx where
 N:List Str
 sc:Scope
 fns:List Str
 glo:Glo
noncomputable def bName:M.B→String
 |.len=>"len"
 |.min=>"min"
 |.max=>"max"
 |.tuple=>"tuple"
 |.list=>"list"
 |.all=>"all"
 |.sorted=>"sorted"
 |.int=>"int"
 |.str=>"str"
noncomputable def relab(scope sc:Scope):Scope:={ scope with names:=scope.names.map fun(n,k)=>if (k==NameKind.free&&sc.kind==.function&&sc.names.lookup n==some .cell) then(n,NameKind.cell) else(n,k) }
noncomputable def tlOk(N:List Str)(sc:Scope)(t:T):Bool:=t.slots.all fun i=>match N[i]? with
 |some x=>sc.names.lookup x==some .local
 |none=>false
theorem tlOk_of{N:List Str}{sc:Scope}{t:T}(h:tlOk N sc t=true):∀ i∈t.slots,∀ x,N[i]?=some x→sc.names.lookup x=some .local:=by
 intro i hi x hx
 unfold tlOk at h
 have:=List.all_eq_true.mp h i hi
 rw[hx]at this
 simpa using this
def Star(p:Expr):Prop:=∀ es env,starEach (p::es) env=(false,eval p env)::starEach es env
inductive CkTys (c:Ctx):List M.Ty→List Expr→Prop
 |nil:CkTys c [] []
 |cons {t ts ps pos} (ht:t≠.non) (hg:c.sc.names.lookup (Str.ofString t.name)=some .globalImplicit) (h:CkTys c ts ps):CkTys c (t::ts) (.Name (Str.ofString t.name) pos::ps)
inductive CkTs (c:Ctx):List Nat→List Expr→Prop
 |nil:CkTs c [] []
 |cons {i x pos is es} (hN:c.N[i]?=some x) (hl:c.sc.names.lookup x=some .local∨c.sc.names.lookup x=some .cell) (h:CkTs c is es):CkTs c (i::is) (.Name x pos::es)
inductive CkT (c:Ctx):T→Expr→Prop
 |tup {is es k pos} (h:CkTs c is es):CkT c (.tup is) (.Tuple es k pos)
 |var {i x pos} (hN:c.N[i]?=some x) (hl:c.sc.names.lookup x=some .local∨c.sc.names.lookup x=some .cell):CkT c (.var i) (.Name x pos)
noncomputable def gcOk:Expr→Bool
 |.Call _ _ _ _=>true
 |.ListComp _ _ _ _=>true
 |.List _ _=>true
 |.BinOp _ _ _ _=>true
 |.Subscript _ _ _=>true
 |_=>false
inductive CkL (R:E→Expr→Prop):List E→List Expr→Prop
 |nil:CkL R [] []
 |cons {e es p ps} (h:R e p) (t:CkL R es ps):CkL R (e::es) (p::ps)
inductive CkP (R:E→Expr→Prop):List E→List (Option Expr)→List Expr→Prop
 |nil:CkP R [] [] []
 |cons {k v es pk pv ks vs} (hk:R k pk) (hv:R v pv) (t:CkP R es ks vs):CkP R (k::v::es) (some pk::ks) (pv::vs)
inductive CkO (R:E→Expr→Prop):Option E→Option Expr→Prop
 |none:CkO R none none
 |some {e p} (h:R e p):CkO R (some e) (some p)
inductive CkI (R:E→Expr→Prop):Ctx→Expr→E→Expr→Prop
 |rng1 {c tg a pa p0 pos} (hg:c.sc.names.lookup ("range" : Str)=some .globalImplicit) (ha:R a pa):CkI R c tg (.rng1 a) (.Call (.Name "range" p0) [pa] [] pos)
 |zip {c es k tp a b pa pb p0 pos} (hg:c.sc.names.lookup ("zip" : Str)=some .globalImplicit) (ha:R a pa) (hb:R b pb):CkI R c (.Tuple es k tp) (.zip a b) (.Call (.Name "zip" p0) [pa,pb] [] pos)
 |seq {c tg e p} (h:R e p):CkI R c tg e p
inductive CkF (R:Ctx→E→Expr→Prop):Ctx→E→Expr→Prop
 |var {c i x pos} (hN:c.N[i]?=some x) (hv:Vis c.sc x) (hd:(x==("__debug__" : Str))=false) (hcd:(x==("__classdict__" : Str))=false):CkF R c (.var i) (.Name x pos)
 |int {c i j pos}:CkF R c (.lit (.int i)) (.Constant (.int i) j pos)
 |bl {c i j pos}:CkF R c (.lit (.bl i)) (.Constant (.bool i) j pos)
 |non {c j pos}:CkF R c (.lit .non) (.Constant .none j pos)
 |str {c i j pos}:CkF R c (.lit (.str i)) (.Constant (.str i) j pos)
 |glo {c x d pos} (hg:c.sc.names.lookup x=some .globalImplicit) (hm:(x,d)∈c.glo.cs) (hd:(x==("__debug__" : Str))=false):CkF R c (.glo x d) (.Name x pos)
 |bin {c op a b pa pb pos} (ha:R c a pa) (hb:R c b pb):CkF R c (.bin op a b) (.BinOp pa op pb pos)
 |cat {c a b pa pb pos} (ha:R c a pa) (hb:R c b pb):CkF R c (.cat a b) (.BinOp pa .Add pb pos)
 |lenset {c a pa p0 p1 pos1 pos} (hg:c.sc.names.lookup ("len" : Str)=some .globalImplicit) (hs:c.sc.names.lookup ("set" : Str)=some .globalImplicit) (ha:R c a pa):CkF R c (.lenset a) (.Call (.Name "len" p0) [.Call (.Name "set" p1) [pa] [] pos1] [] pos)
 |neg {c a pa pos} (ha:R c a pa):CkF R c (.neg a) (.UnaryOp .USub pa pos)
 |not {c a pa pos} (ha:R c a pa):CkF R c (.not a) (.UnaryOp .Not pa pos)
 |cmp {c op a b pa pb pos} (ha:R c a pa) (hb:R c b pb) (hm:behindInMarks op pb=false):CkF R c (.cmp op a b) (.Compare pa [op] [pb] pos)
 |cmp2 {c op op' a b d pa pb pd pos} (ha:R c a pa) (hb:R c b pb) (hd:R c d pd) (hm:lastMarks [op,op'] [pb,pd]=false):CkF R c (.cmp2 op op' a b d) (.Compare pa [op,op'] [pb,pd] pos)
 |and2 {c a b pa pb pos} (ha:R c a pa) (hb:R c b pb):CkF R c (.and a b) (.BoolOp .And [pa,pb] pos)
 |andN {c a b pa pb pd r pos} (ha:R c a pa) (hb:R c b (.BoolOp .And (pb::pd::r) pos)):CkF R c (.and a b) (.BoolOp .And (pa::pb::pd::r) pos)
 |or2 {c a b pa pb pos} (ha:R c a pa) (hb:R c b pb):CkF R c (.or a b) (.BoolOp .Or [pa,pb] pos)
 |orN {c a b pa pb pd r pos} (ha:R c a pa) (hb:R c b (.BoolOp .Or (pb::pd::r) pos)):CkF R c (.or a b) (.BoolOp .Or (pa::pb::pd::r) pos)
 |ite {c q a b pq pa pb pos} (hq:R c q pq) (ha:R c a pa) (hb:R c b pb):CkF R c (.ite q a b) (.IfExp pq pa pb pos)
 |tup {c es ps k pos} (h:CkL (R c) es ps):CkF R c (.tup es) (.Tuple ps k pos)
 |lst {c es ps pos} (h:CkL (R c) es ps):CkF R c (.lst es) (.List ps pos)
 |idx {c a b pa pb pos} (ha:R c a pa) (hb:R c b pb) (hs:PlainIx pb):CkF R c (.idx a b) (.Subscript pa pb pos)
 |call {c f x es p ps p0 pos} (hg:c.sc.names.lookup x=some .globalImplicit) (hf:c.fns[f]?=some x) (hd:(x==("__debug__" : Str))=false) (h:CkL (R c) es (p::ps)):CkF R c (.call f es) (.Call (.Name x p0) (p::ps) [] pos)
 |bcall {c b es p ps p0 pos} (hg:c.sc.names.lookup (Str.ofString (bName b))=some .globalImplicit) (h:CkL (R c) es (p::ps)):CkF R c (.bcall b es) (.Call (.Name (Str.ofString (bName b)) p0) (p::ps) [] pos)
 |isi1 {c t a pa p0 p1 pos} (hg:c.sc.names.lookup ("isinstance" : Str)=some .globalImplicit) (ht:t≠.non) (hgt:c.sc.names.lookup (Str.ofString t.name)=some .globalImplicit) (ha:R c a pa):CkF R c (.isi a [t] false) (.Call (.Name "isinstance" p0) [pa,.Name (Str.ofString t.name) p1] [] pos)
 |isiN {c ts a pa p0 ps k p1 pos} (hl:ts.length≤1000) (hg:c.sc.names.lookup ("isinstance" : Str)=some .globalImplicit) (ht:CkTys c ts ps) (ha:R c a pa):CkF R c (.isi a ts true) (.Call (.Name "isinstance" p0) [pa,.Tuple ps k p1] [] pos)
 |append {c a e x xp pe apos cpos} (ha:R c a (.Name x xp)) (he:R c e pe) (hl:(apos.endLine==cpos.line)=true):CkF R c (.meth a .append [e]) (.Call (.Attribute (.Name x xp) "append" apos) [pe] [] cpos)
 |gc {c a p} (hp:gcOk p=true) (hg:∀ b,a≠.gc b) (ha:R c a p):CkF R c (.gc a) p
 |comp {c t it elt sr tg iter pelt scope pos N} (hk:scope.kind=.function) (hcell:∀ y∈scope.names,y.2≠.cell) (hfree:∀ y∈scope.names,y.2=.free→c.sc.names.lookup y.1=some .cell∨c.sc.names.lookup y.1=some .free) (hloc:∀ y∈scope.names,y.2=.local→scope.names.lookup y.1=some .local) (hlen:sr.length=N.length) (hsrc:∀ (j i:Nat),sr[j]?=some (some i)→∃ x,N[j]?=some x∧c.N[i]?=some x∧scope.names.lookup x=some .free) (hnd:N.Nodup) (hs:∀ env x,foldedSetIterable iter env x=pure x) (hi:CkI (R c) c tg it iter) (ht:CkT ⟨N,relab scope c.sc,c.fns,c.glo⟩ t tg) (htl:tlOk N (relab scope c.sc) t=true) (he:R ⟨N,relab scope c.sc,c.fns,c.glo⟩ elt pelt):CkF R c (.comp t it none elt sr) (.ListComp pelt [⟨tg,iter,[],0⟩] scope pos)
 |compIf {c t it q elt sr tg iter pq pelt scope pos N} (hk:scope.kind=.function) (hcell:∀ y∈scope.names,y.2≠.cell) (hfree:∀ y∈scope.names,y.2=.free→c.sc.names.lookup y.1=some .cell∨c.sc.names.lookup y.1=some .free) (hloc:∀ y∈scope.names,y.2=.local→scope.names.lookup y.1=some .local) (hlen:sr.length=N.length) (hsrc:∀ (j i:Nat),sr[j]?=some (some i)→∃ x,N[j]?=some x∧c.N[i]?=some x∧scope.names.lookup x=some .free) (hnd:N.Nodup) (hs:∀ env x,foldedSetIterable iter env x=pure x) (hi:CkI (R c) c tg it iter) (ht:CkT ⟨N,relab scope c.sc,c.fns,c.glo⟩ t tg) (htl:tlOk N (relab scope c.sc) t=true) (hq:R ⟨N,relab scope c.sc,c.fns,c.glo⟩ q pq) (he:R ⟨N,relab scope c.sc,c.fns,c.glo⟩ elt pelt):CkF R c (.comp t it (some q) elt sr) (.ListComp pelt [⟨tg,iter,[pq],0⟩] scope pos)
 |dic {c es k v ks vs pos} (h:CkP (R c) es (k::ks) (v::vs)) (h15:(k::ks).length≤15):CkF R c (.dic es) (.Dict (k::ks) (v::vs) pos)
 |didx {c a b pa pb pos} (ha:R c a pa) (hb:R c b pb) (hs:NoSl pb):CkF R c (.didx a b) (.Subscript pa pb pos)
 |dgt {c a b pa pb apos cpos} (ha:R c a pa) (hb:R c b pb) (hbs:∀ env,attributeBase pa "get" env (eval pa env)=eval pa env) (hl:(apos.endLine==cpos.line)=true) (htr:∀ env,backTo cpos (starEach [pb] env)=[(false,eval pb env)]):CkF R c (.dgt a b) (.Call (.Attribute pa "get" apos) [pb] [] cpos)
 |gidx {c x ks ds b pb p0 pos} (hg:c.sc.names.lookup x=some .globalImplicit) (hm:(x,ks,ds)∈c.glo.ds) (hd:(x==("__debug__" : Str))=false) (hb:R c b pb) (hs:NoSl pb):CkF R c (.gidx x ks ds b) (.Subscript (.Name x p0) pb pos)
 |gnin {c x ks ds b pb p0 pos} (hg:c.sc.names.lookup x=some .globalImplicit) (hm:(x,ks,ds)∈c.glo.ds) (hd:(x==("__debug__" : Str))=false) (hb:R c b pb):CkF R c (.gin true x ks b) (.Compare pb [.NotIn] [.Name x p0] pos)
 |sli {c a lo hi pa pl ph p2 pos} (ha:R c a pa) (hl:CkO (R c) lo pl) (hh:CkO (R c) hi ph):CkF R c (.sli a lo hi) (.Subscript pa (.Slice pl ph none p2) pos)
section
variable {R R':E→Expr→Prop}(k:∀ {e p},R e p→R' e p)
include k
theorem CkL.mono:∀ {es:List E}{ps:List Expr},CkL R es ps→CkL R' es ps
 |_,_,.nil=>.nil
 |_,_,.cons h t=>.cons (k h) (mono t)
theorem CkP.mono:∀ {es:List E}{ks:List (Option Expr)}{ps:List Expr},CkP R es ks ps→CkP R' es ks ps
 |_,_,_,.nil=>.nil
 |_,_,_,.cons h h' t=>.cons (k h) (k h') (mono t)
theorem CkO.mono{o:Option E}{p:Option Expr}(h:CkO R o p):CkO R' o p:=by
 cases h with
 |none=>exact .none
 |some h=>exact .some (k h)
theorem CkI.mono{c:Ctx}{tg:Expr}{e:E}{p:Expr}(h:CkI R c tg e p):CkI R' c tg e p:=by
 cases h with
 |rng1 hg ha=>exact .rng1 hg (k ha)
 |zip hg ha hb=>exact .zip hg (k ha) (k hb)
 |seq h=>exact .seq (k h)
end
theorem CkF.mono{R R':Ctx→E→Expr→Prop}(k:∀ {c e p},R c e p→R' c e p){c:Ctx}{e:E}{p:Expr}(h:CkF R c e p):CkF R' c e p:=by
 cases h with
 |var hN hv hd hcd=>exact .var hN hv hd hcd
 |int=>exact .int
 |bl=>exact .bl
 |non=>exact .non
 |str=>exact .str
 |glo hg hm hd=>exact .glo hg hm hd
 |bin ha hb=>exact .bin (k ha) (k hb)
 |cat ha hb=>exact .cat (k ha) (k hb)
 |lenset hg hs ha=>exact .lenset hg hs (k ha)
 |neg ha=>exact .neg (k ha)
 |not ha=>exact .not (k ha)
 |cmp ha hb hm=>exact .cmp (k ha) (k hb) hm
 |cmp2 ha hb hd hm=>exact .cmp2 (k ha) (k hb) (k hd) hm
 |and2 ha hb=>exact .and2 (k ha) (k hb)
 |andN ha hb=>exact .andN (k ha) (k hb)
 |or2 ha hb=>exact .or2 (k ha) (k hb)
 |orN ha hb=>exact .orN (k ha) (k hb)
 |ite hq ha hb=>exact .ite (k hq) (k ha) (k hb)
 |tup h=>exact .tup (CkL.mono k h)
 |lst h=>exact .lst (CkL.mono k h)
 |idx ha hb hs=>exact .idx (k ha) (k hb) hs
 |call hg hf hd h=>exact .call hg hf hd (CkL.mono k h)
 |bcall hg h=>exact .bcall hg (CkL.mono k h)
 |isi1 hg ht hgt ha=>exact .isi1 hg ht hgt (k ha)
 |isiN hl hg ht ha=>exact .isiN hl hg ht (k ha)
 |append ha he hl=>exact .append (k ha) (k he) hl
 |gc hp hg ha=>exact .gc hp hg (k ha)
 |comp hk hcell hfree hloc hlen hsrc hnd hs hi ht htl he=>exact .comp hk hcell hfree hloc hlen hsrc hnd hs (CkI.mono k hi) ht htl (k he)
 |compIf hk hcell hfree hloc hlen hsrc hnd hs hi ht htl hq he=>exact .compIf hk hcell hfree hloc hlen hsrc hnd hs (CkI.mono k hi) ht htl (k hq) (k he)
 |dic h h15=>exact .dic (CkP.mono k h) h15
 |didx ha hb hs=>exact .didx (k ha) (k hb) hs
 |dgt ha hb hbs hl htr=>exact .dgt (k ha) (k hb) hbs hl htr
 |gidx hg hm hd hb hs=>exact .gidx hg hm hd (k hb) hs
 |gnin hg hm hd hb=>exact .gnin hg hm hd (k hb)
 |sli ha hl hh=>exact .sli (k ha) (CkO.mono k hl) (CkO.mono k hh)
def CkE(c:Ctx)(e:E)(p:Expr):Prop:=∀ R:Ctx→E→Expr→Prop,(∀ c e p,CkF R c e p→R c e p)→R c e p
theorem CkE.mk{c:Ctx}{e:E}{p:Expr}(h:CkF CkE c e p):CkE c e p:=fun R k=>k c e p (h.mono fun q=>q R k)
theorem CkE.out{c:Ctx}{e:E}{p:Expr}(h:CkE c e p):CkF CkE c e p:=h (CkF CkE) fun _ _ _ q=>q.mono CkE.mk
noncomputable abbrev CkEs(c:Ctx):=CkL (CkE c)
theorem CkE.v{c i x pos}(hN:c.N[i]?=some x:=by rfl)(hv:Vis c.sc x:=by exact .inl rfl)(hd:(x==("__debug__" : Str))=false:=by rfl)(hcd:(x==("__classdict__" : Str))=false:=by rfl):CkE c (.var i) (.Name x pos):=.mk (.var hN hv hd hcd)
theorem CkE.var{c i x pos}(hN:c.N[i]?=some x)(hv:Vis c.sc x)(hd:(x==("__debug__" : Str))=false)(hcd:(x==("__classdict__" : Str))=false):CkE c (.var i) (.Name x pos):=.mk (.var hN hv hd hcd)
theorem CkE.int{c i j pos}:CkE c (.lit (.int i)) (.Constant (.int i) j pos):=.mk (.int)
theorem CkE.bl{c i j pos}:CkE c (.lit (.bl i)) (.Constant (.bool i) j pos):=.mk (.bl)
theorem CkE.non{c j pos}:CkE c (.lit .non) (.Constant .none j pos):=.mk (.non)
theorem CkE.str{c i j pos}:CkE c (.lit (.str i)) (.Constant (.str i) j pos):=.mk (.str)
theorem CkE.glo{c x d pos}(hg:c.sc.names.lookup x=some .globalImplicit)(hm:(x,d)∈c.glo.cs)(hd:(x==("__debug__" : Str))=false):CkE c (.glo x d) (.Name x pos):=.mk (.glo hg hm hd)
theorem CkE.bin{c op a b pa pb pos}(ha:CkE c a pa)(hb:CkE c b pb):CkE c (.bin op a b) (.BinOp pa op pb pos):=.mk (.bin ha hb)
theorem CkE.cat{c a b pa pb pos}(ha:CkE c a pa)(hb:CkE c b pb):CkE c (.cat a b) (.BinOp pa .Add pb pos):=.mk (.cat ha hb)
theorem CkE.lenset{c a pa p0 p1 pos1 pos}(hg:c.sc.names.lookup ("len" : Str)=some .globalImplicit)(hs:c.sc.names.lookup ("set" : Str)=some .globalImplicit)(ha:CkE c a pa):CkE c (.lenset a) (.Call (.Name "len" p0) [.Call (.Name "set" p1) [pa] [] pos1] [] pos):=.mk (.lenset hg hs ha)
theorem CkE.neg{c a pa pos}(ha:CkE c a pa):CkE c (.neg a) (.UnaryOp .USub pa pos):=.mk (.neg ha)
theorem CkE.not{c a pa pos}(ha:CkE c a pa):CkE c (.not a) (.UnaryOp .Not pa pos):=.mk (.not ha)
theorem CkE.cmp{c op a b pa pb pos}(ha:CkE c a pa)(hb:CkE c b pb)(hm:behindInMarks op pb=false:=by rfl):CkE c (.cmp op a b) (.Compare pa [op] [pb] pos):=.mk (.cmp ha hb hm)
theorem CkE.cmp2{c op op' a b d pa pb pd pos}(ha:CkE c a pa)(hb:CkE c b pb)(hd:CkE c d pd)(hm:lastMarks [op,op'] [pb,pd]=false):CkE c (.cmp2 op op' a b d) (.Compare pa [op,op'] [pb,pd] pos):=.mk (.cmp2 ha hb hd hm)
theorem CkE.and2{c a b pa pb pos}(ha:CkE c a pa)(hb:CkE c b pb):CkE c (.and a b) (.BoolOp .And [pa,pb] pos):=.mk (.and2 ha hb)
theorem CkE.andN{c a b pa pb pd r pos}(ha:CkE c a pa)(hb:CkE c b (.BoolOp .And (pb::pd::r) pos)):CkE c (.and a b) (.BoolOp .And (pa::pb::pd::r) pos):=.mk (.andN ha hb)
theorem CkE.or2{c a b pa pb pos}(ha:CkE c a pa)(hb:CkE c b pb):CkE c (.or a b) (.BoolOp .Or [pa,pb] pos):=.mk (.or2 ha hb)
theorem CkE.orN{c a b pa pb pd r pos}(ha:CkE c a pa)(hb:CkE c b (.BoolOp .Or (pb::pd::r) pos)):CkE c (.or a b) (.BoolOp .Or (pa::pb::pd::r) pos):=.mk (.orN ha hb)
theorem CkE.ite{c q a b pq pa pb pos}(hq:CkE c q pq)(ha:CkE c a pa)(hb:CkE c b pb):CkE c (.ite q a b) (.IfExp pq pa pb pos):=.mk (.ite hq ha hb)
theorem CkE.tup{c es ps k pos}(h:CkL (CkE c) es ps):CkE c (.tup es) (.Tuple ps k pos):=.mk (.tup h)
theorem CkE.lst{c es ps pos}(h:CkL (CkE c) es ps):CkE c (.lst es) (.List ps pos):=.mk (.lst h)
theorem CkE.idx{c a b pa pb pos}(ha:CkE c a pa)(hb:CkE c b pb)(hs:PlainIx pb:=by exact fun _ _=>rfl):CkE c (.idx a b) (.Subscript pa pb pos):=.mk (.idx ha hb hs)
theorem CkE.call{c f x es p ps p0 pos}(h:CkL (CkE c) es (p::ps))(hg:c.sc.names.lookup x=some .globalImplicit:=by rfl)(hf:c.fns[f]?=some x:=by rfl)(hd:(x==("__debug__" : Str))=false:=by rfl):CkE c (.call f es) (.Call (.Name x p0) (p::ps) [] pos):=.mk (.call hg hf hd h)
theorem CkE.bcall{c b es p ps p0 pos}(h:CkL (CkE c) es (p::ps))(hg:c.sc.names.lookup (Str.ofString (bName b))=some .globalImplicit:=by rfl):CkE c (.bcall b es) (.Call (.Name (Str.ofString (bName b)) p0) (p::ps) [] pos):=.mk (.bcall hg h)
theorem CkE.isi1{c t a pa p0 p1 pos}(ha:CkE c a pa)(hg:c.sc.names.lookup ("isinstance" : Str)=some .globalImplicit:=by rfl)(ht:t≠.non:=by decide)(hgt:c.sc.names.lookup (Str.ofString t.name)=some .globalImplicit:=by rfl):CkE c (.isi a [t] false) (.Call (.Name "isinstance" p0) [pa,.Name (Str.ofString t.name) p1] [] pos):=.mk (.isi1 hg ht hgt ha)
theorem CkE.isiN{c ts a pa p0 ps k p1 pos}(hl:ts.length≤1000)(hg:c.sc.names.lookup ("isinstance" : Str)=some .globalImplicit)(ht:CkTys c ts ps)(ha:CkE c a pa):CkE c (.isi a ts true) (.Call (.Name "isinstance" p0) [pa,.Tuple ps k p1] [] pos):=.mk (.isiN hl hg ht ha)
theorem CkE.append{c a e x xp pe apos cpos}(ha:CkE c a (.Name x xp))(he:CkE c e pe)(hl:(apos.endLine==cpos.line)=true):CkE c (.meth a .append [e]) (.Call (.Attribute (.Name x xp) "append" apos) [pe] [] cpos):=.mk (.append ha he hl)
theorem CkE.gc{c a p}(ha:CkE c a p)(hp:gcOk p=true:=by rfl)(hg:∀ b,a≠.gc b:=by exact fun _ z=>nomatch z):CkE c (.gc a) p:=.mk (.gc hp hg ha)
theorem CkE.comp{c t it elt sr tg iter pelt scope pos N}(hi:CkI (CkE c) c tg it iter)(ht:CkT ⟨N,relab scope c.sc,c.fns,c.glo⟩ t tg)(he:CkE ⟨N,relab scope c.sc,c.fns,c.glo⟩ elt pelt)(hk:scope.kind=.function:=by rfl)(hcell:∀ y∈scope.names,y.2≠.cell:=by decide +kernel)(hfree:∀ y∈scope.names,y.2=.free→c.sc.names.lookup y.1=some .cell∨c.sc.names.lookup y.1=some .free:=by decide +kernel)(hloc:∀ y∈scope.names,y.2=.local→scope.names.lookup y.1=some .local:=by decide +kernel)(hlen:sr.length=N.length:=by rfl)(hsrc:∀ (j i:Nat),sr[j]?=some (some i)→∃ x,N[j]?=some x∧c.N[i]?=some x∧scope.names.lookup x=some .free:=by exact src_of (by decide +kernel))(hnd:N.Nodup:=by decide +kernel)(hs:∀ env x,foldedSetIterable iter env x=pure x:=by exact fun _ _=>rfl)(htl:tlOk N (relab scope c.sc) t=true:=by decide +kernel):CkE c (.comp t it none elt sr) (.ListComp pelt [⟨tg,iter,[],0⟩] scope pos):=.mk (.comp hk hcell hfree hloc hlen hsrc hnd hs hi ht htl he)
theorem CkE.compIf{c t it q elt sr tg iter pq pelt scope pos N}(hi:CkI (CkE c) c tg it iter)(ht:CkT ⟨N,relab scope c.sc,c.fns,c.glo⟩ t tg)(hq:CkE ⟨N,relab scope c.sc,c.fns,c.glo⟩ q pq)(he:CkE ⟨N,relab scope c.sc,c.fns,c.glo⟩ elt pelt)(hk:scope.kind=.function:=by rfl)(hcell:∀ y∈scope.names,y.2≠.cell:=by decide +kernel)(hfree:∀ y∈scope.names,y.2=.free→c.sc.names.lookup y.1=some .cell∨c.sc.names.lookup y.1=some .free:=by decide +kernel)(hloc:∀ y∈scope.names,y.2=.local→scope.names.lookup y.1=some .local:=by decide +kernel)(hlen:sr.length=N.length:=by rfl)(hsrc:∀ (j i:Nat),sr[j]?=some (some i)→∃ x,N[j]?=some x∧c.N[i]?=some x∧scope.names.lookup x=some .free:=by exact src_of (by decide +kernel))(hnd:N.Nodup:=by decide +kernel)(hs:∀ env x,foldedSetIterable iter env x=pure x:=by exact fun _ _=>rfl)(htl:tlOk N (relab scope c.sc) t=true:=by decide +kernel):CkE c (.comp t it (some q) elt sr) (.ListComp pelt [⟨tg,iter,[pq],0⟩] scope pos):=.mk (.compIf hk hcell hfree hloc hlen hsrc hnd hs hi ht htl hq he)
theorem CkE.dic{c es k v ks vs pos}(h:CkP (CkE c) es (k::ks) (v::vs))(h15:(k::ks).length≤15):CkE c (.dic es) (.Dict (k::ks) (v::vs) pos):=.mk (.dic h h15)
theorem CkE.didx{c a b pa pb pos}(ha:CkE c a pa)(hb:CkE c b pb)(hs:NoSl pb):CkE c (.didx a b) (.Subscript pa pb pos):=.mk (.didx ha hb hs)
theorem CkE.dgt{c a b pa pb apos cpos}(ha:CkE c a pa)(hb:CkE c b pb)(hbs:∀ env,attributeBase pa "get" env (eval pa env)=eval pa env)(hl:(apos.endLine==cpos.line)=true)(htr:∀ env,backTo cpos (starEach [pb] env)=[(false,eval pb env)]):CkE c (.dgt a b) (.Call (.Attribute pa "get" apos) [pb] [] cpos):=.mk (.dgt ha hb hbs hl htr)
theorem CkE.gidx{c x ks ds b pb p0 pos}(hg:c.sc.names.lookup x=some .globalImplicit)(hm:(x,ks,ds)∈c.glo.ds)(hd:(x==("__debug__" : Str))=false)(hb:CkE c b pb)(hs:NoSl pb):CkE c (.gidx x ks ds b) (.Subscript (.Name x p0) pb pos):=.mk (.gidx hg hm hd hb hs)
theorem CkE.gnin{c x ks ds b pb p0 pos}(hg:c.sc.names.lookup x=some .globalImplicit)(hm:(x,ks,ds)∈c.glo.ds)(hd:(x==("__debug__" : Str))=false)(hb:CkE c b pb):CkE c (.gin true x ks b) (.Compare pb [.NotIn] [.Name x p0] pos):=.mk (.gnin hg hm hd hb)
theorem CkE.sli{c a lo hi pa pl ph p2 pos}(ha:CkE c a pa)(hl:CkO (CkE c) lo pl)(hh:CkO (CkE c) hi ph):CkE c (.sli a lo hi) (.Subscript pa (.Slice pl ph none p2) pos):=.mk (.sli ha hl hh)
mutual
inductive CkS:Ctx→S→Stmt→Prop
 |set {c i e x p pos pos'} (hN:c.N[i]?=some x) (hl:c.sc.names.lookup x=some .local∨c.sc.names.lookup x=some .cell) (h:CkE c e p) (hs:∀ env,swapsWith p (some (.Name x pos')) pos.line env=pure false):CkS c (.set (.var i) e) (.Assign [.Name x pos'] p pos)
 |setC {c i e x p pos pos'} (hN:c.N[i]?=some x) (hl:c.sc.names.lookup x=some .local∨c.sc.names.lookup x=some .cell) (h:CkE c e p) (hc:∃ elt gs sc q,p=.ListComp elt gs sc q) (hs:∀ env:Env,env.scope=c.sc→(swapsWith p (some (.Name x pos')) pos.line env=pure false∨swapsWith p (some (.Name x pos')) pos.line env=pure true)):CkS c (.set (.var i) e) (.Assign [.Name x pos'] p pos)
 |dset {c a i e pa pi pe tpos pos} (ha:CkE c a pa) (hi:CkE c i pi) (he:CkE c e pe) (hs:∀ env,swapsWith pe (some (.Subscript pa pi tpos)) pos.line env=pure false):CkS c (.dset a i e) (.Assign [.Subscript pa pi tpos] pe pos)
 |expr {c e p pos} (h:CkE c e p) (hs:∀ env,swapsWith p none pos.line env=pure false):CkS c (.expr e) (.Expr p pos)
 |ret {c e p pos} (h:CkE c e p):CkS c (.ret e) (.Return (some p) pos)
 |ite {c q a b pq pa pb pos} (hq:CkE c q pq) (ha:CkSs c a pa) (hb:CkSs c b pb):CkS c (.ite q a b) (.If pq pa pb pos)
 |forr {c t it body tg iter pb pos} (ht:CkT c t tg) (hi:CkI (CkE c) c tg it iter) (hs:∀ env x,foldedSetIterable iter env x=pure x) (hb:CkSs c body pb):CkS c (.forr t it body) (.For tg iter pb [] pos)
inductive CkSs:Ctx→List S→List Stmt→Prop
 |nil {c}:CkSs c [] []
 |cons {c s ss p ps} (h:CkS c s p) (t:CkSs c ss ps):CkSs c (s::ss) (p::ps)
 |doc {c ss x j pos pos' ps} (t:CkSs c ss ps):CkSs c ss (.Expr (.Constant (.str x) j pos) pos'::ps)
end
theorem CkS.st{c i e x p pos pos'}(h:CkE c e p)(hN:c.N[i]?=some x:=by rfl)(hl:c.sc.names.lookup x=some .local∨c.sc.names.lookup x=some .cell:=by exact .inl rfl)(hs:∀ env,swapsWith p (some (.Name x pos')) pos.line env=pure false:=by exact fun _=>rfl):CkS c (.set (.var i) e) (.Assign [.Name x pos'] p pos):=.set hN hl h hs
theorem CkE.star{c:Ctx}{e:E}{p:Expr}(h:CkE c e p):Star p:=by
 cases h.out with
 |gc hp hg ha=>
  cases p with
  |Call=>exact fun _ _=>rfl
  |ListComp=>exact fun _ _=>rfl
  |List=>exact fun _ _=>rfl
  |BinOp=>exact fun _ _=>rfl
  |Subscript=>exact fun _ _=>rfl
  |_=>cases hp
 |_=>exact fun _ _=>rfl
noncomputable def spN(K:PySem.W.Frag)(fns:List Fn)(n f:Nat):Sp:=fun vs H Q _=>∃ m st ds d st',Rel K m st H∧IsDs K m H ds vs∧M.callD fns n f ds st=some (d,st')∧Post K m H d st' Q
def FTab(P:Program)(w:World)(K:PySem.W.Frag)(mg:Str→Option Value)(base:Heap)(fns:List Fn)(names:List Str)(n:Nat):Prop:=∀ (f:Nat) (x:Str),names[f]?=some x→∃ (fa:Addr) (fd:FuncData) (ps:List Str),
 mg x=some (.ref fa)∧FnOk P w K mg base CX0 n fa fd ps (spN K fns n f)∧PySem.W.keepIn K (.ref fa)=true∧Binds K fd ps []
structure Mo (K:PySem.W.Frag) (mg:Str→Option Value) (glo:Glo) (prm:Params):Prop where
 gds:∀ x ks ds,(x,ks,ds)∈glo.ds→∃ a,mg x=some (.ref a)∧FDict prm K a ks ds
 glo:∀ x d,(x,d)∈glo.cs→∃ u v,mg x=some u∧RelV v u∧∀ m H,IsD K m H d v
 len:mg "len" = none
 min:mg "min" = none
 max:mg "max" = none
 tuple:mg "tuple" = none
 list:mg "list" = none
 all:mg "all" = none
 sorted:mg "sorted" = none
 isinstance:mg "isinstance" = none
 range:mg "range" = none
 int:mg "int" = none
 bool:mg "bool" = none
 str:mg "str" = none
 zip:mg "zip" = none
 any:mg "any" = none
 enumerate:mg "enumerate" = none
 reversed:mg "reversed" = none
 sum:mg "sum" = none
 set:mg "set" = none
 dict:mg "dict" = none
structure Good (fns:List Fn) (dl:Nat) (c:Ctx) (X:Cx):Prop where
 room:Room dl X.A
 calm:X.calm=true
 N:X.N=c.N
 sc:X.env.scope=c.sc
 nd:c.N.Nodup
 kind:c.sc.kind=.function
 tab:FTab X.prog X.w X.K X.mg X.base fns c.fns dl
 mo:Mo X.K X.mg c.glo X.w.params
 xe:X.xe=fun _ _=>False
end MS
end
section
namespace MS
open PySem PySem.Spec PyProof.Rows L2
open M (D Cell Store Sl E S T Src Fn Out R)
theorem noStars{c:Ctx}:∀ {es:List E}{ps:List Expr},CkEs c es ps→∀ (pos:Pos) (env:Env),(backTo pos (starEach ps env)).any (·.1)=false
 |_,_,.nil,_,_=>rfl
 |_,_,.cons h t,pos,env=>by
  rw[h.star]
  show(false||(backTo pos (starEach _ env)).any (·.1))=false
  rw[noStars t pos env]
  rfl
theorem Good.gl{fns:List Fn}{dl:Nat}{c:Ctx}{X:Cx}(G:Good fns dl c X){x:Str}(h:c.sc.names.lookup x=some .globalImplicit):Gl X x:=by
 show X.env.scope.names.lookup x=_
 rw[G.sc]; exact h
theorem relabel_eq{scope sc:Scope}{env:Env}(h:env.scope=sc):relabel scope env=relab scope sc:=by
 unfold relabel relab Env.kindOf
 rw[h]
theorem Good.inner{fns:List Fn}{dl:Nat}{c:Ctx}{X:Cx}(G:Good fns dl c X){N:List Str}{scope:Scope}{C:Addr}{fp:List Addr}{s:Shared}{H:Hp}(hk:scope.kind=.function)(hnd:N.Nodup):Good fns dl ⟨N,relab scope c.sc,c.fns,c.glo⟩ (cxComp X N scope C fp s H):=
 ⟨G.room,G.calm,rfl,relabel_eq G.sc,hnd,hk,G.tab,G.mo,rfl⟩
noncomputable def IsRow(K:PySem.W.Frag)(m:List Addr)(H:Hp)(k:RK)(a:Addr):D→Prop
 |.tup ds=>k=.tup∧∃ xs,SqT K H a xs∧IsDs K m H ds xs
 |.loc l=>k=.lst∧m[l]?=some a
 |.lst ds=>k=.lst∧∃ xs,SqF K H a xs∧IsDs K m H ds xs
 |_=>False
theorem IsRow.mono{K:PySem.W.Frag}{m m':List Addr}{H H':Hp}{k:RK}{a:Addr}{d:D}(h:IsRow K m H k a d)(b:Sub m m')(t:Tr H H'):IsRow K m' H' k a d:=by
 cases d with
 |tup ds=>obtain⟨e,xs,q,r⟩:=h; exact⟨e,xs,t.sqT q,isDs_mono b t ds xs r⟩
 |loc l=>exact⟨h.1,b l a h.2⟩
 |lst ds=>obtain⟨e,xs,q,r⟩:=h; exact⟨e,xs,t.sqF q,isDs_mono b t ds xs r⟩
 |_=>exact h.elim
theorem IsRow.sq{K:PySem.W.Frag}{m:List Addr}{st:Store}{H:Hp}{k:RK}{a:Addr}{d:D}{ds:List D}(h:IsRow K m H k a d)(R0:Rel K m st H)(e:M.rowAt st d=some ds):∃ xs,k.sq K H a xs∧IsDs K m H ds xs:=by
 cases d with
 |tup es=>
  cases e
  obtain⟨rfl,xs,q,r⟩:=h
  exact⟨xs,q,r⟩
 |loc l=>
  obtain⟨rfl,ha⟩:=h
  obtain⟨a',xs,ha',z,q,r⟩:=R0.list e (mkLoc ha)
  cases z
  exact⟨xs,q,r⟩
 |lst es=>
  cases e
  obtain⟨rfl,xs,q,r⟩:=h
  exact⟨xs,q.sq,r⟩
 |_=>exact h.elim
theorem isRow_of{K:PySem.W.Frag}{m:List Addr}{st:Store}{H:Hp}{d:D}{v:V}{ds:List D}(iv:MS.IsD K m H d v)(R0:Rel K m st H)(e:M.rowAt st d=some ds):∃ k a,v=.ref a∧IsRow K m H k a d∧∃ xs,k.sq K H a xs:=by
 cases d with
 |tup es=>
  obtain⟨a,xs,rfl,q,r⟩:=iv.tup
  exact⟨.tup,a,rfl,⟨rfl,xs,q,r⟩,xs,q⟩
 |loc l=>
  obtain⟨a,xs,ha,rfl,q,r⟩:=R0.list e iv
  exact⟨.lst,a,rfl,⟨rfl,ha⟩,xs,q⟩
 |lst es=>
  obtain⟨a,xs,rfl,q,r⟩:=iv.lst
  exact⟨.lst,a,rfl,⟨rfl,xs,q,r⟩,xs,q.sq⟩
 |_=>cases e
theorem IsRow.sq'{K:PySem.W.Frag}{m:List Addr}{st:Store}{H:Hp}{a:Addr}{d:D}{ds:List D}(h:IsRow K m H .lst a d)(R0:Rel K m st H)(e:M.seqAt st d=some ds):∃ xs,SqL K H a xs∧IsDs K m H ds xs:=by
 cases d with
 |loc l=>exact h.sq R0 e
 |lst l=>exact h.sq R0 e
 |_=>cases e
theorem isRow_of'{K:PySem.W.Frag}{m:List Addr}{st:Store}{H:Hp}{d:D}{v:V}{ds:List D}(iv:MS.IsD K m H d v)(R0:Rel K m st H)(e:M.seqAt st d=some ds):∃ a,v=.ref a∧IsRow K m H .lst a d∧∃ xs,SqL K H a xs:=by
 cases d with
 |loc l=>
  obtain⟨a,xs,ha,rfl,q,r⟩:=R0.list e iv
  exact⟨a,rfl,⟨rfl,ha⟩,xs,q⟩
 |lst l=>
  obtain⟨a,xs,rfl,q,r⟩:=iv.lst
  exact⟨a,rfl,⟨rfl,xs,q,r⟩,xs,q.sq⟩
 |_=>cases e
noncomputable def IsSrc(K:PySem.W.Frag)(m:List Addr)(H:Hp):Src→It→Prop
 |.rng lo n,J=>J=Itr lo n
 |.tup ds,J=>∃ a xs,J=Itt K a∧SqT K H a xs∧IsDs K m H ds xs
 |.lst d,J=>∃ a,IsRow K m H .lst a d∧J=Itl K a
 |.str z,J=>J=Its z
 |.rgs lo c n,J=>False
 |.zip x y,J=>∃ (k1 k2:RK) (a b:Addr),J=Itz K k1 k2 a b∧IsRow K m H k1 a x∧IsRow K m H k2 b y
theorem IsSrc.mono{K:PySem.W.Frag}{m m':List Addr}{H H':Hp}{s:Src}{J:It}(h:IsSrc K m H s J)(b:Sub m m')(t:Tr H H'):IsSrc K m' H' s J:=by
 cases s with
 |rng lo n=>exact h
 |tup ds=>obtain⟨a,xs,e,q,r⟩:=h; exact⟨a,xs,e,t.sqT q,isDs_mono b t ds xs r⟩
 |lst l=>obtain⟨a,e,q⟩:=h; exact⟨a,e.mono b t,q⟩
 |str z=>exact h
 |rgs lo c n=>exact h.elim
 |zip x y=>obtain⟨k1,k2,a,a',e,h1,h2⟩:=h; exact⟨k1,k2,a,a',e,h1.mono b t,h2.mono b t⟩
theorem IsSrc.done{K:PySem.W.Frag}{m:List Addr}{st:Store}{H:Hp}{s:Src}{J:It}{i:Nat}(h:IsSrc K m H s J)(R0:Rel K m st H)(e:s.at st i=some none):J.stop i H:=by
 cases s with
 |rng lo n=>
  cases h
  simp only[Src.at]at e
  split at e
  ·cases e
  ·rename_i q
   exact Nat.not_lt.mp q
 |rgs lo c n=>exact h.elim
 |tup ds=>
  obtain⟨a,xs,rfl,q,r⟩:=h
  simp only[Src.at,Option.some.injEq]at e
  exact⟨xs,q,by rw[← r.length]; exact List.getElem?_eq_none_iff.mp e⟩
 |lst l=>
  obtain⟨a,ha,rfl⟩:=h
  simp only[Src.at]at e
  obtain⟨ds,e1,e2⟩:=mapD e
  obtain⟨xs,q,r⟩:=ha.sq' R0 e1
  exact⟨xs,q,by rw[← r.length]; exact List.getElem?_eq_none_iff.mp e2⟩
 |str z=>
  cases h
  simp only[Src.at,Option.some.injEq]at e
  have:=List.getElem?_eq_none_iff.mp e
  rw[List.length_map]at this
  exact this
 |zip x y=>
  obtain⟨k1,k2,a,b,rfl,h1,h2⟩:=h
  simp only[Src.at]at e
  obtain⟨ds,e1,e⟩:=bindO e
  obtain⟨es,e2,e3⟩:=mapD e
  obtain⟨xs,q1,r1⟩:=h1.sq R0 e1
  obtain⟨ys,q2,r2⟩:=h2.sq R0 e2
  refine⟨xs,ys,q1,q2,?_⟩
  unfold M.pairAt at e3
  rw[← r1.length,← r2.length]
  cases z1:ds[i]? with
  |none=>exact .inl (List.getElem?_eq_none_iff.mp z1)
  |some d1=>
   cases z2:es[i]? with
   |none=>exact .inr (List.getElem?_eq_none_iff.mp z2)
   |some d2=>rw[z1,z2]at e3; cases e3
theorem IsSrc.next{K:PySem.W.Frag}{m:List Addr}{st:Store}{H:Hp}{s:Src}{J:It}{i:Nat}{d:D}(h:IsSrc K m H s J)(R0:Rel K m st H)(e:s.at st i=some (some d)):J.go i H∧∀ x H',J.yld i H x H'→Same H H'∧MS.IsD K m H' d x:=by
 cases s with
 |rng lo n=>
  cases h
  simp only[Src.at,Option.some.injEq]at e
  split at e
  ·rename_i q
   cases e
   refine⟨q,?_⟩
   rintro x H' ⟨rfl,rfl⟩
   exact⟨fun _ _ z=>z,mkInt _⟩
  ·cases e
 |rgs lo c n=>exact h.elim
 |tup ds=>
  obtain⟨a,xs,rfl,q,r⟩:=h
  simp only[Src.at,Option.some.injEq]at e
  obtain⟨x,ex,ix⟩:=r.get e
  refine⟨⟨xs,x,q,ex⟩,?_⟩
  rintro y H' ⟨rfl,z⟩
  have:=z xs q
  rw[ex]at this
  cases this
  exact⟨fun _ _ z=>z,ix⟩
 |lst l=>
  obtain⟨a,ha,rfl⟩:=h
  simp only[Src.at]at e
  obtain⟨ds,e1,e2⟩:=mapD e
  obtain⟨xs,q,r⟩:=ha.sq' R0 e1
  obtain⟨x,ex,ix⟩:=r.get e2
  refine⟨⟨xs,x,q,ex⟩,?_⟩
  rintro y H' ⟨rfl,z⟩
  have:=z xs q
  rw[ex]at this
  cases this
  exact⟨fun _ _ z=>z,ix⟩
 |str z=>
  cases h
  simp only[Src.at,Option.some.injEq]at e
  rw[List.getElem?_map]at e
  cases hc:z.cps.toList[i]? with
  |none=>rw[hc]at e; cases e
  |some c=>
   rw[hc]at e
   cases e
   refine⟨(List.getElem?_eq_some_iff.mp hc).1,?_⟩
   rintro x H' ⟨rfl,c',hc',rfl⟩
   rw[hc]at hc'
   cases hc'
   exact⟨fun _ _ w=>w,mkStr _⟩
 |zip u v=>
  obtain⟨k1,k2,a,b,rfl,h1,h2⟩:=h
  simp only[Src.at]at e
  obtain⟨ds,e1,e⟩:=bindO e
  obtain⟨es,e2,e3⟩:=mapD e
  obtain⟨xs,q1,r1⟩:=h1.sq R0 e1
  obtain⟨ys,q2,r2⟩:=h2.sq R0 e2
  unfold M.pairAt at e3
  cases z1:ds[i]? with
  |none=>rw[z1]at e3; cases e3
  |some d1=>
   cases z2:es[i]? with
   |none=>rw[z1,z2]at e3; cases e3
   |some d2=>
    rw[z1,z2]at e3
    cases e3
    obtain⟨x,ex,ix⟩:=r1.get z1
    obtain⟨y,ey,iy⟩:=r2.get z2
    refine⟨⟨xs,ys,x,y,q1,q2,ex,ey⟩,?_⟩
    rintro w H' ⟨p,x',y',rfl,hp,rfl,f1,f2⟩
    have g1:=f1 xs q1
    rw[ex]at g1
    cases g1
    have g2:=f2 ys q2
    rw[ey]at g2
    cases g2
    have sm:=same_new (o:=.tup [x,y]) hp
    exact⟨sm,mkTup (SqT.of upd_same) (isDs_mono (Sub.refl _) (Tr.of_same sm) _ _ (mkCons ix (mkCons iy mkNil)))⟩
noncomputable def tI(K:PySem.W.Frag)(f:Sl→Store→Option (Src×Store)):TI:=fun σ H R=>∃ m st τ s st',Rel K m st H∧SlotOk K m H τ σ∧f τ st=some (s,st')∧∀ m' H' J,Sub m m'→Tr H H'→Rel K m' st' H'→IsSrc K m' H' s J→R J H'
theorem tI.el{K:PySem.W.Frag}{f:Sl→Store→Option (Src×Store)}{σ:L2.St}{H:Hp}{Q:It→Hp→Prop}{P:Prop}(h:tI K f σ H Q)(k:∀ m st τ s st',Rel K m st H→SlotOk K m H τ σ→f τ st=some (s,st')→(∀ m' H' J,Sub m m'→Tr H H'→Rel K m' st' H'→IsSrc K m' H' s J→Q J H')→P):P:=by
 rcases h with⟨m,st,τ,d,st',a,b,c,e⟩
 exact k m st τ d st' a b c e
theorem _root_.L2.PI.imp{X:Cx}{tg e:Expr}{t t':TI}(h:PI X tg e t)(f:∀ σ H R,t' σ H R→t σ H R):PI X tg e t':=fun pins s σ H Q I q=>h pins s σ H Q I (f σ H Q q)
def PostO(K:PySem.W.Frag)(m:List Addr)(H:Hp)(o:Out)(st':Store)(Dn:Ends):Prop:=∀ m' H',Sub m m'→Tr H H'→Rel K m' st' H'→match o with
 |.nx τ=>∀ σ',SlotOk K m' H' τ σ'→Dn.nx σ' H'
 |.rt d=>∀ v,IsD K m' H' d v→Dn.rt v H'
 |.bk τ=>∀ σ',SlotOk K m' H' τ σ'→Dn.bk σ' H'
 |.ct τ=>∀ σ',SlotOk K m' H' τ σ'→Dn.ct σ' H'
theorem PostO.mono{K:PySem.W.Frag}{m m1:List Addr}{H H1:Hp}{o:Out}{st':Store}{Dn:Ends}(p:PostO K m H o st' Dn)(s:Sub m m1)(t:Tr H H1):PostO K m1 H1 o st' Dn:=fun m' H' s' t' r=>p m' H' (s.trans s') (t.trans t') r
noncomputable def tS(K:PySem.W.Frag)(f:Sl→Store→Option (Out×Store)):TS:=fun Dn σ H=>∃ m st τ o st',Rel K m st H∧SlotOk K m H τ σ∧f τ st=some (o,st')∧PostO K m H o st' Dn
theorem tS.el{K:PySem.W.Frag}{f:Sl→Store→Option (Out×Store)}{σ:L2.St}{H:Hp}{Dn:Ends}{P:Prop}(h:tS K f Dn σ H)(k:∀ m st τ o st',Rel K m st H→SlotOk K m H τ σ→f τ st=some (o,st')→PostO K m H o st' Dn→P):P:=by
 rcases h with⟨m,st,τ,d,st',a,b,c,e⟩
 exact k m st τ d st' a b c e
structure AllOk (fns:List Fn) (dl n:Nat):Prop where
 e:∀ c X,Good fns dl c X→∀ e p,CkE c e p→PE X p (tD X.K fun τ st=>(M.rn fns dl n).ev τ st e)
 t:∀ c X,Good fns dl c X→∀ e p,CkE c e p→PT X p (tTs X.K fun τ st=>(M.rn fns dl n).tst τ st e)
 w:∀ c X,Good fns dl c X→∀ e op ps pos,CkE c e (.BoolOp op ps pos)→PW X (.BoolOp op ps pos) (tTs X.K fun τ st=>(M.rn fns dl n).tst τ st e)
 s:∀ c X,Good fns dl c X→(∀ x,X.fn x=true)→∀ ss ps,CkSs c ss ps→PSs X ps (tS X.K fun τ st=>(M.rn fns dl n).ex τ st ss)
theorem allOk_zero(fns:List Fn)(dl:Nat):AllOk fns dl 0 where
 e:=fun c X G e p h pins s σ H Q I q=>by obtain⟨m,st,τ,d,st',_,_,z,_⟩:=q; cases z
 t:=fun c X G e p h pins s σ H Q I q=>by obtain⟨m,st,τ,d,st',_,_,z,_⟩:=q; cases z
 w:=fun c X G e op ps pos h wh pins s σ H Q I q=>by obtain⟨m,st,τ,d,st',_,_,z,_⟩:=q; cases z
 s:=fun c X G hf ss ps h pins s σ H Q I q=>by obtain⟨m,st,τ,d,st',_,_,z,_⟩:=q; cases z
section
variable {fns:List Fn}{dl n:Nat}{c:Ctx}{X:Cx}
theorem args_ok(A:AllOk fns dl n)(G:Good fns dl c X):∀ {es:List E}{ps:List Expr},CkEs c es ps→PA X ps (tL X.K fun τ st=>M.evs ((M.rn fns dl n).ev τ) es st)
 |_,_,.nil=>pa_nil.imp fun _ _ _ h=>tL_nil h
 |_,_,.cons (e:=e) (es:=es) h t=>(pa_cons (A.e c X G _ _ h) (args_ok A G t) (h.star _ _)).imp fun _ _ _ q=>
   tL_cons (fa:=fun τ st=>(M.rn fns dl n).ev τ st e) (fr:=fun τ st=>M.evs ((M.rn fns dl n).ev τ) es st) q
noncomputable def plainE:E→Bool
 |.rng1 _=>false
 |.rng2 _ _=>false
 |.rng3 _ _ _=>false
 |.zip _ _=>false
 |_=>true
theorem CkF.plain{R:Ctx→E→Expr→Prop}{c:Ctx}{e:E}{p:Expr}(h:CkF R c e p):plainE e=true:=by cases h<;>rfl
theorem src_plain{e:E}(h:plainE e=true)(r:R)(τ:Sl)(st:Store):M.src r τ st e=(r.ev τ st e).bind fun p=>match p.1 with
   |.tup ds=>some (.tup ds,p.2)
   |.str z=>if z.cps.all (· < 128) then some (.str z,p.2) else none
   |d=>(M.seqAt p.2 d).map fun _=>(.lst d,p.2):=by
 cases e with
 |rng1 _=>cases h
 |rng2 _ _=>cases h
 |rng3 _ _ _=>cases h
 |zip _ _=>cases h
 |_=>rfl
theorem iter_ok(A:AllOk fns dl n)(G:Good fns dl c X){it:E}{tg iter:Expr}(h:CkI (CkE c) c tg it iter):PI X tg iter (tI X.K fun τ st=>M.src (M.rn fns dl n) τ st it):=by
 have seq:∀ {e p},CkE c e p→(∀ τ st,M.src (M.rn fns dl n) τ st e=((M.rn fns dl n).ev τ st e).bind fun p=>match p.1 with
   |.tup ds=>some (.tup ds,p.2)
   |.str z=>if z.cps.all (· < 128) then some (.str z,p.2) else none
   |d=>(M.seqAt p.2 d).map fun _=>(.lst d,p.2))→PI X tg p (tI X.K fun τ st=>M.src (M.rn fns dl n) τ st e):=by
  intro e p he hsrc
  refine(pi_seq (A.e c X G e p he)).imp fun σ H R q=>?_
  refine q.el fun m st τ s st' R0 S0 e1 q=>?_
  have e1:=(hsrc τ st).symm.trans e1
  obtain⟨d,s1,e2,e1⟩:=bindD e1
  refine⟨m,st,τ,d,s1,R0,S0,e2,fun x m1 H1 b1 t1 R1 i1=>?_⟩
  cases d with
  |tup ds=>
   cases e1
   obtain⟨a,xs,rfl,hq,ix⟩:=i1.tup
   exact .inl ⟨a,rfl,.inr ⟨⟨xs,hq⟩,q m1 H1 _ b1 t1 R1 ⟨a,xs,rfl,hq,ix⟩⟩⟩
  |loc l=>
   obtain⟨ds,e3,e4⟩:=mapD e1
   cases e4
   obtain⟨a,rfl,ha,xs,hq⟩:=isRow_of' i1 R1 e3
   exact .inl ⟨a,rfl,.inl ⟨⟨xs,hq⟩,q m1 H1 _ b1 t1 R1 ⟨a,ha,rfl⟩⟩⟩
  |lst l=>
   obtain⟨ds,e3,e4⟩:=mapD e1
   cases e4
   obtain⟨a,rfl,ha,xs,hq⟩:=isRow_of' i1 R1 e3
   exact .inl ⟨a,rfl,.inl ⟨⟨xs,hq⟩,q m1 H1 _ b1 t1 R1 ⟨a,ha,rfl⟩⟩⟩
  |str z=>
   dsimp only at e1
   split at e1
   ·rename_i hz
    cases e1
    exact .inr ⟨z,i1.str,hz,q m1 H1 _ b1 t1 R1 rfl⟩
   ·cases e1
  |_=>cases e1
 cases h with
 |@rng1 _ a pa p0 pos hg ha=>
  refine(pi_range1 (G.gl hg) G.mo.range (args_ok A G (.cons ha .nil)) (by rw[ha.star]; rfl)).imp fun σ H R q=>?_
  refine q.el fun m st τ s st' R0 S0 e1 q=>?_
  have e1:(((M.rn fns dl n).ev τ st a).bind fun p=>match p.1 with
   |.int n=>if M.big n then none else some (Src.rng 0 n.toNat,p.2)
   |_=>none)=some (s,st'):=e1
  obtain⟨d,s1,e2,e1⟩:=bindD e1
  cases d with
  |int k=>
   dsimp only at e1
   split at e1
   ·cases e1
   ·rename_i hb
    cases e1
    unfold M.big at hb
    simp only[Bool.or_eq_true,decide_eq_true_eq,not_or]at hb
    refine⟨m,st,τ,[.int k],st',R0,S0,?_,fun xs m1 H1 b1 t1 R1 i1=>?_⟩
    ·show(((M.rn fns dl n).ev τ st a).bind fun p=>(some (([]:List D),p.2)).bind fun q=>some (p.1::q.1,q.2))=_
     rw[e2]; rfl
    ·obtain⟨x,rfl,ix⟩:=i1.one
     cases ix.int
     exact⟨k,rfl,by omega,by omega,q m1 H1 _ b1 t1 R1 rfl⟩
  |_=>cases e1
 |@zip ts k tp a b pa pb p0 pos hg ha hb=>
  refine(pi_zip (G.gl hg) G.mo.zip (args_ok A G (.cons ha (.cons hb .nil))) (by rw[ha.star,hb.star]; rfl) (by rw[hb.star]; rfl)).imp fun σ H R q=>?_
  obtain⟨m,st,τ,s,st',R0,S0,e1,q⟩:=q
  have e1:(((M.rn fns dl n).ev τ st a).bind fun p=>((M.rn fns dl n).ev τ p.2 b).bind fun q=>(M.rowAt q.2 p.1).bind fun _=>(M.rowAt q.2 q.1).map fun _=>(Src.zip p.1 q.1,q.2))=some (s,st'):=e1
  obtain⟨d,s1,e2,e1⟩:=bindD e1
  obtain⟨d',s2,e3,e1⟩:=bindD e1
  obtain⟨ds,e4,e1⟩:=bindO e1
  obtain⟨es,e5,e6⟩:=mapD e1
  cases e6
  refine⟨m,st,τ,[d,d'],s2,R0,S0,?_,fun xs m1 H1 b1 t1 R1 i1=>?_⟩
  ·show(((M.rn fns dl n).ev τ st a).bind fun p=>(((M.rn fns dl n).ev τ p.2 b).bind fun p=>(some (([]:List D),p.2)).bind fun q=>some (p.1::q.1,q.2)).bind fun q=>some (p.1::q.1,q.2))=_
   rw[e2]
   show(((M.rn fns dl n).ev τ s1 b).bind fun p=>(some (([]:List D),p.2)).bind fun q=>some (p.1::q.1,q.2)).bind _=_
   rw[e3]; rfl
  ·obtain⟨x,y,rfl,ix,iy⟩:=i1.two
   obtain⟨k1,a1,rfl,h1,w1⟩:=isRow_of ix R1 e4
   obtain⟨k2,a2,rfl,h2,w2⟩:=isRow_of iy R1 e5
   exact⟨k1,k2,a1,a2,rfl,w1,w2,q m1 H1 _ b1 t1 R1 ⟨k1,k2,a1,a2,rfl,h1,h2⟩⟩
 |@seq _ e p he=>
  exact seq he (src_plain he.out.plain _)
theorem po_ok(A:AllOk fns dl n)(G:Good fns dl c X){o:Option E}{p:Option Expr}(h:CkO (CkE c) o p):PO X p (fun σ H Q=>∃ m st τ l st',Rel X.K m st H∧SlotOk X.K m H τ σ∧M.part (M.rn fns dl n) τ st o=some (l,st')∧∀ m' H',Sub m m'→Tr H H'→Rel X.K m' st' H'→Q l H'):=by
 cases h with
 |none=>
  intro pins s σ H Q I q
  obtain⟨m,st,τ,l,st',R0,S0,e,k⟩:=q
  cases e
  exact po_none pins s σ H Q I (k m H (Sub.refl m) (Tr.refl H) R0)
 |@some e p h=>
  intro pins s σ H Q I q
  obtain⟨m,st,τ,l,st',R0,S0,e0,k⟩:=q
  have e0:(((M.rn fns dl n).ev τ st e).bind fun p=>match p.1 with
   |.int i=>some (some i,p.2)
   |_=>none)=some (l,st'):=e0
  obtain⟨d,s1,e1,e2⟩:=bindD e0
  cases d with
  |int i=>
   cases e2
   exact po_some (A.e c X G e p h) pins s σ H Q I ⟨m,st,τ,.int i,s1,R0,S0,e1,fun v m' H' b t R1 iv=>⟨i,iv.int,k m' H' b t R1⟩⟩
  |_=>cases e2
noncomputable def gIs:List Nat→TGs
 |[]=>gNil
 |i::is=>gCons (gName i) (gIs is)
noncomputable def gT(K:PySem.W.Frag):T→TG
 |.var i=>gName i
 |.tup is=>gTup K is.length (gIs is)
theorem gIs_of{K:PySem.W.Frag}{m:List Addr}{H:Hp}{Q:L2.St→Hp→Prop}:∀ {is:List Nat}{ds:List D}{xs:List V}{τ τ':Sl}{σ:L2.St},IsDs K m H ds xs→SlotOk K m H τ σ→M.setIs is ds τ=some τ'→(∀ σ',SlotOk K m H τ' σ'→Q σ' H)→gIs is xs σ H Q
 |[],[],xs,τ,τ',σ,ix,S0,e,k=>by
  cases e
  exact⟨ix.nil,k σ S0⟩
 |i::is,d::ds,xs,τ,τ',σ,ix,S0,e,k=>by
  obtain⟨x,r,rfl,q,t⟩:=ix.cons
  unfold M.setIs at e
  split at e
  ·exact⟨x,r,rfl,gIs_of t (S0.put q) e k⟩
  ·cases e
 |[],_::_,_,_,_,_,_,_,e,_=>by cases e
 |_::_,[],_,_,_,_,_,_,e,_=>by cases e
theorem setIs_len:∀ {is:List Nat}{ds:List D}{τ τ':Sl},M.setIs is ds τ=some τ'→is.length=ds.length
 |[],[],_,_,_=>rfl
 |i::is,d::ds,τ,τ',e=>by
  unfold M.setIs at e
  split at e
  ·rw[List.length_cons,List.length_cons,setIs_len e]
  ·cases e
 |[],_::_,_,_,e=>by cases e
 |_::_,[],_,_,e=>by cases e
theorem gT_of{K:PySem.W.Frag}{m:List Addr}{H:Hp}{Q:L2.St→Hp→Prop}{t:T}{d:D}{v:V}{τ τ':Sl}{σ:L2.St}(iv:IsD K m H d v)(S0:SlotOk K m H τ σ)(e:M.setT t d τ=some τ')(k:∀ σ',SlotOk K m H τ' σ'→Q σ' H):gT K t v σ H Q:=by
 cases t with
 |var i=>
  have e:(if i<τ.length then some (τ.set i (some d)) else none)=some τ':=e
  split at e
  ·cases e
   exact k _ (S0.put iv)
  ·cases e
 |tup is=>
  cases d with
  |tup ds=>
   obtain⟨a,xs,rfl,hq,ix⟩:=iv.tup
   have e:M.setIs is ds τ=some τ':=e
   exact⟨a,xs,rfl,hq,by rw[← ix.length,setIs_len e],gIs_of ix S0 e k⟩
  |_=>cases e
theorem var_of(G:Good fns dl c X){i:Nat}{x:Str}(h:c.N[i]?=some x):X.N[i]?=some x:=by rw[G.N]; exact h
theorem boot_all':bootBuiltins ("all" : Str)=some (.builtin "all"):=by decide +kernel
theorem boot_int':bootBuiltins ("int" : Str)=some (.type "int"):=by decide +kernel
theorem boot_bool':bootBuiltins ("bool" : Str)=some (.type "bool"):=by decide +kernel
theorem boot_str':bootBuiltins ("str" : Str)=some (.type "str"):=by decide +kernel
theorem boot_isi':bootBuiltins ("isinstance" : Str)=some (.builtin "isinstance"):=by decide +kernel
theorem boot_sorted':bootBuiltins ("sorted" : Str)=some (.builtin "sorted"):=by decide +kernel
theorem boot_set':bootBuiltins ("set" : Str)=some (.type "set"):=by decide +kernel
theorem boot_len':bootBuiltins ("len" : Str)=some (.builtin "len"):=by decide +kernel
theorem boot_min':bootBuiltins ("min" : Str)=some (.builtin "min"):=by decide +kernel
theorem boot_max':bootBuiltins ("max" : Str)=some (.builtin "max"):=by decide +kernel
theorem boot_list':bootBuiltins ("list" : Str)=some (.type "list"):=by decide +kernel
theorem boot_tuple':bootBuiltins ("tuple" : Str)=some (.type "tuple"):=by decide +kernel
theorem ty_ok(G:Good fns dl c X){t:M.Ty}{pos:Pos}(ht:t≠.non)(hg:c.sc.names.lookup (Str.ofString t.name)=some .globalImplicit):PE X (.Name (Str.ofString t.name) pos) (tC (.ty t.name)):=by
 cases t with
 |non=>exact absurd rfl ht
 |bl=>exact pe_bltn (G.gl hg) G.mo.bool boot_bool' rfl (by decide) (by decide)
 |int=>exact pe_bltn (G.gl hg) G.mo.int boot_int' rfl (by decide) (by decide)
 |str=>exact pe_bltn (G.gl hg) G.mo.str boot_str' rfl (by decide) (by decide)
 |tup=>exact pe_bltn (G.gl hg) G.mo.tuple boot_tuple' rfl (by decide) (by decide)
 |lst=>exact pe_bltn (G.gl hg) G.mo.list boot_list' rfl (by decide) (by decide)
noncomputable def tCs:List V→TA
 |[]=>tNil
 |v::vs=>tCons (tC v) (tCs vs)
theorem tCs_end:∀ (vs:List V) (σ:L2.St) (H:Hp) (Q:List V→Hp→Prop),Q vs H→tCs vs σ H Q
 |[],_,_,_,h=>h
 |v::vs,σ,H,Q,h=>tCs_end vs σ H (fun xs H2=>Q (v::xs) H2) h
theorem tys_ok(G:Good fns dl c X):∀ {ts:List M.Ty}{ps:List Expr},CkTys c ts ps→PA X ps (tCs (ts.map fun t=>V.ty t.name))∧∀ t∈ts,t≠.non
 |_,_,.nil=>⟨pa_nil,fun _ h=>nomatch h⟩
 |_,_,.cons ht hg h=>by
  obtain⟨h1,h2⟩:=tys_ok G h
  refine⟨pa_cons (ty_ok G ht hg) h1 rfl,fun t hm=>?_⟩
  rcases List.mem_cons.mp hm with z|z
  ·rw[z]; exact ht
  ·exact h2 t z
end
end MS
end
section
namespace MS
open PySem PySem.Spec PyProof.Rows L2
open M (D Cell Store Sl E S T Src Fn Out R)
section
variable {fns:List Fn}{dl n:Nat}{c:Ctx}{X:Cx}
theorem un_negD:UnR X (unaryOp .USub) (rU1 X.K fun st d=>match d with|.int i=>some (.int (-i),st)|_=>none):=by
 intro pins s σ H x v Q I rx h
 refine h.el fun m st a d st' R0 i1 e q=>?_
 cases a with
 |int i=>
  cases e
  exact un_neg pins s σ H x v Q I rx ⟨i,i1.int,q.here R0 (mkInt _)⟩
 |_=>cases e
theorem comp_scope(G:Good fns dl c X){N:List Str}{sr:List (Option Nat)}{scope:Scope}(hk:scope.kind=.function)(hcell:∀ y∈scope.names,y.2≠.cell)(hfree:∀ y∈scope.names,y.2=.free→c.sc.names.lookup y.1=some .cell∨c.sc.names.lookup y.1=some .free)
  (hloc:∀ y∈scope.names,y.2=.local→scope.names.lookup y.1=some .local) (hlen:sr.length=N.length) (hsrc:∀ (j i:Nat),sr[j]?=some (some i)→∃ x,N[j]?=some x∧c.N[i]?=some x∧scope.names.lookup x=some .free):CompScope X N sr scope:=
 ⟨hk,hcell,fun y hy hf=>by
  have:=hfree y hy hf
  show X.env.scope.names.lookup y.1=_∨X.env.scope.names.lookup y.1=_
  rw[G.sc]; exact this,hloc,hlen,fun j i h=>by
  obtain⟨x,a,b,d⟩:=hsrc j i h
  exact⟨x,a,var_of G b,d⟩⟩
theorem inner_ok{K:PySem.W.Frag}{m:List Addr}{H:Hp}{τ:Sl}{σ:L2.St}(sr:List (Option Nat))(h:SlotOk K m H τ σ):SlotOk K m H (M.inner sr τ) (innerS sr σ):=by
 refine⟨by unfold M.inner innerS; rw[List.length_map,List.length_map],fun j d e=>?_⟩
 unfold M.inner at e
 rw[List.getElem?_map]at e
 unfold innerS
 rw[List.getElem?_map]
 cases q:sr[j]? with
 |none=>rw[q]at e; cases e
 |some o=>
  rw[q]at e
  cases o with
  |none=>cases e
  |some i=>
   have hi:τ[i]?=some (some d):=by
    cases z:τ[i]? with
    |none=>simp[z]at e
    |some w=>
     cases w with
     |none=>simp[z]at e
     |some w=>simpa[z] using e
   obtain⟨v,a,b⟩:=h.at_ i d hi
   refine⟨v,?_,b⟩
   simp[a]
theorem tD_comp{K:PySem.W.Frag}{r:R}{t:T}{it elt:E}{q:Option E}{sr:List (Option Nat)}{tt:TT}{σ:L2.St}{H:Hp}{Q:VK}
  (htt:∀ σ H (Q:Bool→Hp→Prop),(match q with
   |none=>Q true H
   |some c=>tTs K (fun τ st=>r.tst τ st c) σ H Q)→tt σ H Q)
  (h:tD K (fun τ st=>M.stepEv r τ st (.comp t it q elt sr)) σ H Q) :
  tComp sr (tI K fun τ st=>M.src r τ st it) (gT K t) tt (tD K fun τ st=>r.ev τ st elt) σ H Q:=by
 refine h.el fun m st τ d st' R0 S0 e post=>?_
 have e:((M.src r τ st it).bind fun p=>(M.loopC p.1 (M.turnC r t q elt) (p.1.size p.2+1) 0 [] (M.inner sr τ) p.2).map fun q=>M.alloc q.2 (.lst true q.1))=some (d,st'):=e
 obtain⟨p,e1,e⟩:=bindO e
 obtain⟨res,e2,e3⟩:=mapD e
 refine⟨m,st,τ,p.1,p.2,R0,S0,e1,fun m1 H1 J b1 t1 R1 hJ=>?_⟩
 refine⟨fun i' k acc σ' H'=>∃ m2 st2 τ2 accD,Sub m1 m2∧Tr H1 H'∧Rel K m2 st2 H'∧SlotOk K m2 H' τ2 σ'∧IsDs K m2 H' accD acc∧M.loopC p.1 (M.turnC r t q elt) k i' accD τ2 st2=some res,
  ⟨_,m1,p.2,M.inner sr τ,[],Sub.refl _,Tr.refl _,R1,inner_ok sr (S0.mono b1 t1),mkNil,e2⟩,?_⟩
 rintro j k acc σ' H' ⟨m2,st2,τ2,accD,b2,t2,R2,S2,ia,e4⟩
 cases k with
 |zero=>cases e4
 |succ k=>
  have e4:(p.1.at st2 j).bind (fun o=>match o with
   |none=>if M.lim<accD.length then none else some (accD,st2)
   |some d=>if M.lim≤accD.length then none else(M.turnC r t q elt τ2 st2 d).bind fun z=>M.loopC p.1 (M.turnC r t q elt) k (j+1) (match z.1 with|some x=>accD++[x]|none=>accD) z.2.1 z.2.2)=some res:=e4
  obtain⟨o,e5,e4⟩:=bindO e4
  have l1:=ia.length
  have l2:=lim_eq
  cases o with
  |none=>
   dsimp only at e4
   split at e4
   ·cases e4
   ·rename_i hl
    cases e4
    refine .inl ⟨(hJ.mono b2 t2).done R2 e5,by omega,fun pp hp=>?_⟩
    cases e3
    exact post _ (m2++[pp]) _ (b1.trans (b2.trans (Sub.app _ _))) (t1.trans (t2.trans (Tr.of_same (same_new hp)))) (R2.new hp ia) R2.newLoc
  |some d'=>
   dsimp only at e4
   split at e4
   ·cases e4
   ·rename_i hl
    obtain⟨hgo,hy⟩:=(hJ.mono b2 t2).next R2 e5
    refine .inr ⟨hgo,by omega,fun x H2 hyl=>?_⟩
    obtain⟨sm,ix⟩:=hy x H2 hyl
    have t2:=t2.trans (Tr.of_same sm)
    have R2:=R2.same sm
    have S2:=S2.mono (Sub.refl _) (Tr.of_same sm)
    have ia:=isDs_mono (Sub.refl _) (Tr.of_same sm) _ _ ia
    obtain⟨z,e6,e4⟩:=bindO e4
    unfold M.turnC at e6
    obtain⟨τ3,e7,e6⟩:=bindO e6
    refine gT_of ix S2 e7 fun σ3 S3=>?_
    ·refine htt _ _ _ ?_
     cases q with
     |none=>
      dsimp only at e6 ⊢
      obtain⟨y,e8,e9⟩:=mapD e6
      cases e9
      rw[if_pos rfl]
      refine⟨m2,st2,_,y.1,y.2,R2,S3,e8,fun v m3 H3 b3 t3 R3 i3=>⟨k,Nat.lt_succ_self k,m3,y.2,_,accD++[y.1],b2.trans b3,t2.trans t3,R3,S3.mono b3 t3,(isDs_mono b3 t3 _ _ ia).append (mkCons i3 mkNil),e4⟩⟩
     |some cq=>
      dsimp only at e6 ⊢
      obtain⟨bb,e8,e6⟩:=bindO e6
      refine⟨m2,st2,_,bb.1,bb.2,R2,S3,e8,fun m3 H3 b3 t3 R3=>?_⟩
      cases hb:bb.1 with
      |true=>
       rw[hb,if_pos rfl]at e6
       rw[if_pos rfl]
       obtain⟨y,e9,e10⟩:=mapD e6
       cases e10
       refine⟨m3,bb.2,_,y.1,y.2,R3,S3.mono b3 t3,e9,fun v m4 H4 b4 t4 R4 i4=>⟨k,Nat.lt_succ_self k,m4,y.2,_,accD++[y.1],b2.trans (b3.trans b4),t2.trans (t3.trans t4),R4,S3.mono (b3.trans b4) (t3.trans t4),(isDs_mono (b3.trans b4) (t3.trans t4) _ _ ia).append (mkCons i4 mkNil),e4⟩⟩
      |false=>
       rw[hb,if_neg Bool.false_ne_true]at e6
       cases e6
       rw[if_neg Bool.false_ne_true]
       exact⟨k,Nat.lt_succ_self k,m3,bb.2,_,accD,b2.trans b3,t2.trans t3,R3,S3.mono b3 t3,isDs_mono b3 t3 _ _ ia,e4⟩
theorem targets_ok(G:Good fns dl c X):∀ {is:List Nat}{es:List Expr},CkTs c is es→(∀ i∈is,∀ x,c.N[i]?=some x→X.fn x=true∨c.sc.names.lookup x=some .local)→PGs X es (gIs is)∧(assignEach es X.env).length=is.length∧(assignEach es X.env).findIdx? (·.1)=none
 |_,_,.nil,_=>⟨pgs_nil,rfl,rfl⟩
 |_,_,.cons (i:=i) (x:=x) (pos:=pos) (is:=is) (es:=es) hN hl h,hf=>by
  obtain⟨h1,h2,h3⟩:=targets_ok G h fun j hj=>hf j (List.mem_cons_of_mem _ hj)
  have hg:PG X (.Name x pos) (gName i):=pg_name (by rw[G.N]; exact G.nd) (var_of G hN) (by show X.env.scope.names.lookup x=_∨_=_; rw[G.sc]; exact hl) (by rw[G.sc]; exact hf i List.mem_cons_self x hN)
  refine⟨pgs_cons hg h1 rfl,?_,?_⟩
  ·show(assignEach es X.env).length+1=is.length+1
   rw[h2]
  ·show List.findIdx? (·.1) ((false,assign (.Name x pos) X.env)::assignEach es X.env)=none
   rw[List.findIdx?_cons,h3]
   rfl
theorem target_ok(G:Good fns dl c X){t:T}{tg:Expr}(h:CkT c t tg)(hf:∀ i∈t.slots,∀ x,c.N[i]?=some x→X.fn x=true∨c.sc.names.lookup x=some .local):PG X tg (gT X.K t):=by
 cases h with
 |@var i x pos hN hl=>exact pg_name (by rw[G.N]; exact G.nd) (var_of G hN) (by show X.env.scope.names.lookup x=_∨_=_; rw[G.sc]; exact hl) (by rw[G.sc]; exact hf i (by simp[T.slots]) x hN)
 |@tup is es k pos h=>
  obtain⟨h1,h2,h3⟩:=targets_ok G h hf
  exact pg_tup G.calm h1 h2 h3
noncomputable def trsOf(r:R)(K:PySem.W.Frag):List E→List (TE×TE)
 |k::v::es=>(tD K fun τ st=>r.ev τ st k,tD K fun τ st=>r.ev τ st v)::trsOf r K es
 |_=>[]
noncomputable def twos:List V→List (V×V)
 |x::y::r=>(x,y)::twos r
 |_=>[]
theorem pairs_pps(A:AllOk fns dl n)(G:Good fns dl c X){pos:Pos}:∀ {es:List E}{ks:List (Option Expr)}{vs:List Expr},CkP (CkE c) es ks vs→PPs X pos ks vs (trsOf (M.rn fns dl n) X.K es)∧ks.all (·.isSome)=true∧ks.length=vs.length
 |_,_,_,.nil=>⟨pps_nil,rfl,rfl⟩
 |_,_,_,.cons hk hv t=>by
  obtain⟨h1,h2,h3⟩:=pairs_pps A G (pos:=pos) t
  refine⟨pps_cons (A.e c X G _ _ hk) (A.e c X G _ _ hv) h1,?_,?_⟩
  ·rw[List.all_cons,h2]; rfl
  ·rw[List.length_cons,List.length_cons,h3]
theorem pairs_run{r:R}{K:PySem.W.Frag}:∀ {es:List E}{ks:List (Option Expr)}{vs:List Expr}{c:Ctx}{m:List Addr}{st st':Store}{H:Hp}{τ:Sl}{σ:L2.St}{ds:List D}{Q:List (V×V)→Hp→Prop},CkP (CkE c) es ks vs→Rel K m st H→SlotOk K m H τ σ→M.evs (r.ev τ) es st=some (ds,st')→
  (∀ xs m' H',Sub m m'→Tr H H'→Rel K m' st' H'→IsDs K m' H' ds xs→Q (twos xs) H')→tPairs (trsOf r K es) σ H Q
 |_,_,_,c,m,st,st',H,τ,σ,ds,Q,.nil,R0,S0,e,q=>by
  cases e
  exact q [] m H (Sub.refl m) (Tr.refl H) R0 mkNil
 |_,_,_,c,m,st,st',H,τ,σ,ds,Q,.cons (k:=k) (v:=v) (es:=es) hk hv t,R0,S0,e,q=>by
  have e:((r.ev τ st k).bind fun p=>((r.ev τ p.2 v).bind fun p'=>(M.evs (r.ev τ) es p'.2).bind fun q=>some (p'.1::q.1,q.2)).bind fun q=>some (p.1::q.1,q.2))=some (ds,st'):=e
  obtain⟨d1,s1,e1,e⟩:=bindD e
  obtain⟨w,e2,e⟩:=bindO e
  obtain⟨d2,s2,e3,e2⟩:=bindD e2
  obtain⟨u,e4,e2⟩:=bindO e2
  cases e2
  cases e
  refine⟨m,st,τ,d1,s1,R0,S0,e1,fun x m1 H1 b1 t1 R1 i1=>⟨m1,s1,τ,d2,s2,R1,S0.mono b1 t1,e3,fun y m2 H2 b2 t2 R2 i2=>?_⟩⟩
  refine pairs_run t R2 (S0.mono (b1.trans b2) (t1.trans t2)) e4 fun xs m3 H3 b3 t3 R3 ix=>?_
  exact q (x::y::xs) m3 H3 (b1.trans (b2.trans b3)) (t1.trans (t2.trans t3)) R3 (mkCons (isD_mono (b2.trans b3) (t2.trans t3) _ _ i1) (mkCons (isD_mono b3 t3 _ _ i2) ix))
theorem pairs_kv{K:PySem.W.Frag}{m:List Addr}{H:Hp}:∀ {ds:List D}{xs:List V}{kvs:List (D×D)},IsDs K m H ds xs→M.pairUp ds=some kvs→∃ ys:List (Key×V),IsKV K m H kvs ys∧twos xs=ys.map fun kv=>(kV kv.1,kv.2)
 |[],xs,kvs,ix,e=>by
  cases e
  rw[ix.nil]
  exact⟨[],rfl,rfl⟩
 |[d],xs,kvs,ix,e=>by cases e
 |d::d'::ds,xs,kvs,ix,e=>by
  have e:(if M.isKey d then(M.pairUp ds).map ((d,d')::·) else none)=some kvs:=e
  split at e
  ·rename_i hk
   obtain⟨kr,e1,e2⟩:=mapD e
   subst e2
   obtain⟨x,xr,rfl,i1,i2⟩:=ix.cons
   obtain⟨y,yr,rfl,i3,i4⟩:=i2.cons
   obtain⟨k,hk1⟩:=key_of hk
   have hx:=key_V hk1 i1
   subst hx
   obtain⟨ys,h1,h2⟩:=pairs_kv i4 e1
   refine⟨(k,y)::ys,⟨k,y,ys,rfl,hk1,i3,h1⟩,?_⟩
   show(kV k,y)::twos yr=_
   rw[h2]
   rfl
  ·cases e
theorem e_ok(A:AllOk fns dl n)(G':Good fns dl c X){e:E}{p:Expr}(h:CkE c e p):PE X p (tD X.K fun τ st=>M.stepEv (M.rn fns dl n) τ st e):=by
 have G:=G'
 have hu:X.A.units+64<cLine:=G'.room.units
 cases h.out with
 |@var i x pos hN hv hd hcd=>
  refine(pe_var (var_of G hN) (by rw[G.sc]; exact hv) hd hcd).imp fun σ H Q h=>?_
  refine h.el fun m st τ d st' R0 S0 e q=>?_
  simp only[M.stepEv]at e
  split at e
  ·rename_i d' hd'
   cases e
   obtain⟨v,a,b⟩:=S0.at_ i d hd'
   exact⟨v,a,q.here R0 b⟩
  ·cases e
 |int=>exact pe_int.imp fun σ H Q ⟨m,st,τ,d,st',R0,S0,e,q⟩=>by cases e; exact q.here R0 (mkInt _)
 |bl=>exact pe_bl.imp fun σ H Q ⟨m,st,τ,d,st',R0,S0,e,q⟩=>by cases e; exact q.here R0 (mkBl _)
 |non=>exact pe_non.imp fun σ H Q ⟨m,st,τ,d,st',R0,S0,e,q⟩=>by cases e; exact q.here R0 mkNon
 |str=>exact pe_str.imp fun σ H Q ⟨m,st,τ,d,st',R0,S0,e,q⟩=>by cases e; exact q.here R0 (mkStr _)
 |@glo x d pos hg hm hd=>
  obtain⟨u,v,h1,h2,h3⟩:=G.mo.glo x d hm
  exact(pe_glob (G.gl hg) h1 h2 hd).imp fun σ H Q ⟨m,st,τ,d,st',R0,S0,e,q⟩=>by cases e; exact q.here R0 (h3 m H)
 |@bin op a b pa pb pos ha hb=>
  exact(pe_op (op_binD op) (A.e c X G a pa ha) (A.e c X G b pb hb)).imp fun σ H Q h=>tD_bin (fa:=fun τ st=>(M.rn fns dl n).ev τ st a) (fb:=fun τ st=>(M.rn fns dl n).ev τ st b) (g:=fun st x y=>M.binop st op x y) h
 |@cat a b pa pb pos ha hb=>
  exact(pe_op op_catE (A.e c X G a pa ha) (A.e c X G b pb hb)).imp fun σ H Q h=>tD_bin (fa:=fun τ st=>(M.rn fns dl n).ev τ st a) (fb:=fun τ st=>(M.rn fns dl n).ev τ st b) (g:=M.catT) h
 |@lenset a pa p0 p1 pos1 pos hg hs ha=>
  refine(pe_callB call_lenS (G.gl hg) G.mo.len boot_len' (pa_cons (pe_callTy (call_setT G.room.hd G.room.units) (G.gl hs) G.mo.set boot_set' (pa_cons (A.e c X G a pa ha) pa_nil (ha.star _ _)) (by decide) (by decide) (ha.star _ _) rfl) pa_nil rfl) (by decide) (by decide) rfl rfl).imp fun σ H Q h=>?_
  refine h.el fun m st τ d st' R0 S0 e post=>?_
  obtain⟨d1,s1,e1,e⟩:=bindD e
  obtain⟨d2,e2,e3⟩:=mapD e
  cases e3
  refine⟨m,st,τ,d1,s1,R0,S0,e1,fun x m1 H1 b1 t1 R1 ix=>?_⟩
  cases d1 with
  |tup ds=>
   obtain⟨ks,k1,k2⟩:=Option.bind_eq_some_iff.mp (show(ds.mapM M.keyD).bind _=some _ from e2)
   split at k2
   ·rename_i h16
    cases k2
    obtain⟨pt,ys,rfl,hq,iy⟩:=ix.tup
    refine⟨pt,ys,ks,rfl,hq,keys_of iy k1,by rw[← iy.length]; exact h16,fun l hl=>?_⟩
    refine⟨l,_,rfl,upd_same,?_⟩
    have sm:=same_new (o:=setO l (ST.distinct ks).length) hl
    exact post _ m1 _ b1 (t1.trans (Tr.of_same sm)) (R1.same sm) (mkInt _)
   ·cases k2
  |_=>cases e2
 |@neg a pa pos ha=>
  exact(pe_un un_negD (A.e c X G a pa ha)).imp fun σ H Q h=>tD_un (fa:=fun τ st=>(M.rn fns dl n).ev τ st a) h
 |@not a pa pos ha=>
  refine(pe_not (A.e c X G a pa ha)).imp fun σ H Q h=>?_
  refine h.el fun m st τ d st' R0 S0 e q=>?_
  obtain⟨d1,s1,e1,e⟩:=bindD e
  refine⟨m,st,τ,d1,s1,R0,S0,e1,fun v m1 H1 b1 t1 R1 i1=>?_⟩
  cases d1 with
  |bl k=>
   cases e
   exact⟨k,i1.bl,q _ m1 H1 b1 t1 R1 (mkBl _)⟩
  |_=>cases e
 |@cmp op a b pa pb pos ha hb hm=>
  exact(pe_cmpR (op_cmpD hu op) (A.e c X G a pa ha) (A.e c X G b pb hb) hm).imp fun σ H Q h=>tD_bin (fa:=fun τ st=>(M.rn fns dl n).ev τ st a) (fb:=fun τ st=>(M.rn fns dl n).ev τ st b) (g:=fun st x y=>(M.cmpD st op x y).map fun k=>(.bl k,st)) h
 |@cmp2 op op' a b d pa pb pd pos ha hb hd hm=>
  refine(pe_chain (op_cmpD hu op) (op_cmpD hu op') (A.e c X G a pa ha) (A.e c X G b pb hb) (A.e c X G d pd hd) hm).imp fun σ H Q h=>?_
  refine h.el fun m st τ dd st' R0 S0 e q=>?_
  obtain⟨d1,s1,e1,e⟩:=bindD e
  obtain⟨d2,s2,e2,e⟩:=bindD e
  obtain⟨k,e3,e⟩:=bindO e
  refine⟨m,st,τ,d1,s1,R0,S0,e1,fun x m1 H1 b1 t1 R1 i1=>⟨m1,s1,τ,d2,s2,R1,S0.mono b1 t1,e2,fun y m2 H2 b2 t2 R2 i2=>
   ⟨m2,s2,d1,d2,.bl k,s2,R2,isD_mono b2 t2 _ _ i1,i2,by show Option.map _ (M.cmpD s2 op d1 d2)=_; rw[e3]; rfl,fun z m3 H3 b3 t3 R3 i3=>⟨k,i3.bl,?_⟩⟩⟩⟩
  cases k with
  |true=>
   rw[if_pos rfl]at e ⊢
   obtain⟨d3,s3,e4,e⟩:=bindD e
   exact⟨m3,s2,τ,d3,s3,R3,S0.mono (b1.trans (b2.trans b3)) (t1.trans (t2.trans t3)),e4,fun y' m4 H4 b4 t4 R4 i4=>
    ⟨m4,s3,d2,d3,dd,st',R4,isD_mono (b3.trans b4) (t3.trans t4) _ _ i2,i4,e,q.mono (b1.trans (b2.trans (b3.trans b4))) (t1.trans (t2.trans (t3.trans t4)))⟩⟩
  |false=>
   rw[if_neg Bool.false_ne_true]at e ⊢
   cases e
   exact q _ m3 H3 (b1.trans (b2.trans b3)) (t1.trans (t2.trans t3)) R3 (mkBl _)
 |@and2 a b pa pb pos ha hb=>
  refine(pe_and (A.e c X G a pa ha) (pe_one (A.e c X G b pb hb))).imp fun σ H Q h=>?_
  refine h.el fun m st τ d st' R0 S0 e q=>?_
  obtain⟨d1,s1,e1,e⟩:=bindD e
  refine⟨m,st,τ,d1,s1,R0,S0,e1,fun v m1 H1 b1 t1 R1 i1=>?_⟩
  cases d1 with
  |bl k=>
   cases k with
   |true=>exact⟨true,i1.bl,by rw[if_pos rfl]; exact⟨m1,s1,τ,d,st',R1,S0.mono b1 t1,e,q.mono b1 t1⟩⟩
   |false=>cases e; exact⟨false,i1.bl,by rw[if_neg Bool.false_ne_true]; exact q _ m1 H1 b1 t1 R1 (mkBl _)⟩
  |_=>cases e
 |@andN a b pa pb pd r pos ha hb=>
  refine(pe_and (A.e c X G a pa ha) (A.e c X G b _ hb)).imp fun σ H Q h=>?_
  refine h.el fun m st τ d st' R0 S0 e q=>?_
  obtain⟨d1,s1,e1,e⟩:=bindD e
  refine⟨m,st,τ,d1,s1,R0,S0,e1,fun v m1 H1 b1 t1 R1 i1=>?_⟩
  cases d1 with
  |bl k=>
   cases k with
   |true=>exact⟨true,i1.bl,by rw[if_pos rfl]; exact⟨m1,s1,τ,d,st',R1,S0.mono b1 t1,e,q.mono b1 t1⟩⟩
   |false=>cases e; exact⟨false,i1.bl,by rw[if_neg Bool.false_ne_true]; exact q _ m1 H1 b1 t1 R1 (mkBl _)⟩
  |_=>cases e
 |@or2 a b pa pb pos ha hb=>
  refine(pe_or (A.e c X G a pa ha) (pe_one (A.e c X G b pb hb))).imp fun σ H Q h=>?_
  refine h.el fun m st τ d st' R0 S0 e q=>?_
  obtain⟨d1,s1,e1,e⟩:=bindD e
  refine⟨m,st,τ,d1,s1,R0,S0,e1,fun v m1 H1 b1 t1 R1 i1=>?_⟩
  cases d1 with
  |bl k=>
   cases k with
   |false=>exact⟨false,i1.bl,by rw[if_neg Bool.false_ne_true]; exact⟨m1,s1,τ,d,st',R1,S0.mono b1 t1,e,q.mono b1 t1⟩⟩
   |true=>cases e; exact⟨true,i1.bl,by rw[if_pos rfl]; exact q _ m1 H1 b1 t1 R1 (mkBl _)⟩
  |_=>cases e
 |@orN a b pa pb pd r pos ha hb=>
  refine(pe_or (A.e c X G a pa ha) (A.e c X G b _ hb)).imp fun σ H Q h=>?_
  refine h.el fun m st τ d st' R0 S0 e q=>?_
  obtain⟨d1,s1,e1,e⟩:=bindD e
  refine⟨m,st,τ,d1,s1,R0,S0,e1,fun v m1 H1 b1 t1 R1 i1=>?_⟩
  cases d1 with
  |bl k=>
   cases k with
   |false=>exact⟨false,i1.bl,by rw[if_neg Bool.false_ne_true]; exact⟨m1,s1,τ,d,st',R1,S0.mono b1 t1,e,q.mono b1 t1⟩⟩
   |true=>cases e; exact⟨true,i1.bl,by rw[if_pos rfl]; exact q _ m1 H1 b1 t1 R1 (mkBl _)⟩
  |_=>cases e
 |@ite q a b pq pa pb pos hq ha hb=>
  refine(pe_ifExp (A.t c X G q pq hq) (A.e c X G a pa ha) (A.e c X G b pb hb)).imp fun σ H Q h=>?_
  refine h.el fun m st τ d st' R0 S0 e post=>?_
  obtain⟨bb,e1,e⟩:=bindO e
  refine⟨m,st,τ,bb.1,bb.2,R0,S0,e1,fun m1 H1 b1 t1 R1=>?_⟩
  cases hb:bb.1 with
  |true=>
   rw[hb,if_pos rfl]at e
   rw[if_pos rfl]
   exact⟨m1,bb.2,τ,d,st',R1,S0.mono b1 t1,e,post.mono b1 t1⟩
  |false=>
   rw[hb,if_neg Bool.false_ne_true]at e
   rw[if_neg Bool.false_ne_true]
   exact⟨m1,bb.2,τ,d,st',R1,S0.mono b1 t1,e,post.mono b1 t1⟩
 |@tup es ps k pos hs=>
  refine(pe_tup (args_ok A G hs)).imp fun σ H Q h=>?_
  refine h.el fun m st τ d st' R0 S0 e post=>?_
  obtain⟨p,e1,e⟩:=bindO e
  split at e
  ·cases e
  ·rename_i hl
   cases e
   refine⟨m,st,τ,p.1,p.2,R0,S0,e1,fun xs m1 H1 b1 t1 R1 ix=>?_⟩
   have l1:=ix.length
   have l2:=lim_eq
   refine⟨by omega,fun pp hp=>?_⟩
   have sm:=same_new (o:=.tup xs) hp
   exact post _ m1 _ b1 (t1.trans (Tr.of_same sm)) (R1.same sm) (mkTup (SqT.of upd_same) (isDs_mono (Sub.refl _) (Tr.of_same sm) _ _ ix))
 |@lst es ps pos hs=>
  refine(pe_lst (args_ok A G hs)).imp fun σ H Q h=>?_
  refine h.el fun m st τ d st' R0 S0 e post=>?_
  obtain⟨p,e1,e⟩:=bindO e
  split at e
  ·cases e
  ·rename_i hl
   cases e
   refine⟨m,st,τ,p.1,p.2,R0,S0,e1,fun xs m1 H1 b1 t1 R1 ix=>?_⟩
   have l1:=ix.length
   have l2:=lim_eq
   refine⟨by omega,fun pp hp=>?_⟩
   exact post _ (m1++[pp]) _ (b1.trans (Sub.app _ _)) (t1.trans (Tr.of_same (same_new hp))) (R1.new hp ix) R1.newLoc
 |@idx a b pa pb pos ha hb hs=>
  exact(pe_ix ix_D (A.e c X G a pa ha) (A.e c X G b pb hb) hs).imp fun σ H Q h=>tD_bin (fa:=fun τ st=>(M.rn fns dl n).ev τ st a) (fb:=fun τ st=>(M.rn fns dl n).ev τ st b) (g:=fun st x y=>(M.idxD st x y).map fun d=>(d,st)) h
 |@call f x es p ps p0 pos hg hf hd hs=>
  obtain⟨fa,fd,pars,hm,F,hk,hb⟩:=G'.tab f x hf
  have hp:Star p:=by cases hs with|cons h _=>exact h.star
  have ht:(backTo pos (starEach ps X.env)).any (·.1)=false:=by cases hs with|cons _ t=>exact noStars t pos X.env
  refine(pe_call F G.room (G.gl hg) hm hk hb .nil pass0 (args_ok A G hs) hd (hp _ _) ht).imp fun σ H Q h=>?_
  refine h.el fun m st τ d st' R0 S0 e post=>?_
  obtain⟨q,e1,e⟩:=bindO e
  refine⟨m,st,τ,q.1,q.2,R0,S0,e1,fun xs m1 H1 b1 t1 R1 ix=>?_⟩
  show spN X.K fns dl f (xs++[]) H1 Q E0
  have e:(M.rn fns dl n).call f q.1 q.2=some (d,st'):=e
  rw[M.runK_call]at e
  rw[List.append_nil]
  exact⟨m1,q.2,q.1,d,st',R1,ix,e,post.mono b1 t1⟩
 |@bcall b es p ps p0 pos hg hs=>
  have hp:Star p:=by cases hs with|cons h _=>exact h.star
  have ht:(backTo pos (starEach ps X.env)).any (·.1)=false:=by cases hs with|cons _ t=>exact noStars t pos X.env
  have hA:=args_ok A G hs
  cases b with
  |len=>exact(pe_callB call_lenD (G.gl hg) G.mo.len boot_len' hA (by decide) (by decide) (hp _ _) ht).imp fun σ H Q h=>tL_call (fa:=fun τ st=>M.evs ((M.rn fns dl n).ev τ) es st) (g:=M.bLen) h
  |min=>exact(pe_callB (call_minD G.calm) (G.gl hg) G.mo.min boot_min' hA (by decide) (by decide) (hp _ _) ht).imp fun σ H Q h=>tL_call (fa:=fun τ st=>M.evs ((M.rn fns dl n).ev τ) es st) (g:=M.bMin) h
  |max=>exact(pe_callB (call_maxD G.calm) (G.gl hg) G.mo.max boot_max' hA (by decide) (by decide) (hp _ _) ht).imp fun σ H Q h=>tL_call (fa:=fun τ st=>M.evs ((M.rn fns dl n).ev τ) es st) (g:=M.bMax) h
  |tuple=>exact(pe_callTy call_tupleD (G.gl hg) G.mo.tuple boot_tuple' hA (by decide) (by decide) (hp _ _) ht).imp fun σ H Q h=>tL_call (fa:=fun τ st=>M.evs ((M.rn fns dl n).ev τ) es st) (g:=M.bTuple) h
  |list=>exact(pe_callTy call_listD (G.gl hg) G.mo.list boot_list' hA (by decide) (by decide) (hp _ _) ht).imp fun σ H Q h=>tL_call (fa:=fun τ st=>M.evs ((M.rn fns dl n).ev τ) es st) (g:=M.bList) h
  |all=>exact(pe_callB (call_allD G.calm) (G.gl hg) G.mo.all boot_all' hA (by decide) (by decide) (hp _ _) ht).imp fun σ H Q h=>tL_call (fa:=fun τ st=>M.evs ((M.rn fns dl n).ev τ) es st) (g:=M.bAll) h
  |int=>exact(pe_callTy call_intD (G.gl hg) G.mo.int boot_int' hA (by decide) (by decide) (hp _ _) ht).imp fun σ H Q h=>tL_call (fa:=fun τ st=>M.evs ((M.rn fns dl n).ev τ) es st) (g:=M.bInt) h
  |str=>exact(pe_callTy call_strD (G.gl hg) G.mo.str boot_str' hA (by decide) (by decide) (hp _ _) ht).imp fun σ H Q h=>tL_call (fa:=fun τ st=>M.evs ((M.rn fns dl n).ev τ) es st) (g:=M.bStr) h
  |sorted=>exact(pe_callB call_sortedD (G.gl hg) G.mo.sorted boot_sorted' hA (by decide) (by decide) (hp _ _) ht).imp fun σ H Q h=>tL_call (fa:=fun τ st=>M.evs ((M.rn fns dl n).ev τ) es st) (g:=M.bSorted) h
 |@isi1 t a pa p0 p1 pos hg ht hgt ha=>
  refine(pe_callB (call_isi1 t ht) (G.gl hg) G.mo.isinstance boot_isi' (pa_cons (A.e c X G a pa ha) (pa_cons (ty_ok G ht hgt) pa_nil rfl) (ha.star _ _)) (by decide) (by decide) (ha.star _ _) rfl).imp fun σ H Q h=>?_
  refine h.el fun m st τ d st' R0 S0 e post=>?_
  obtain⟨d1,s1,e1,e⟩:=bindD e
  obtain⟨nm,e2,e3⟩:=mapD e
  cases e3
  refine⟨m,st,τ,d1,s1,R0,S0,e1,fun x m1 H1 b1 t1 R1 ix=>?_⟩
  refine⟨m1,s1,d1,nm,x,rfl,R1,ix,e2,post _ m1 H1 b1 t1 R1 ?_⟩
  have:([t].any fun t=>M.tyIs t nm)=M.tyIs t nm:=by simp
  rw[this]
  exact mkBl _
 |@isiN ts a pa p0 ps k p1 pos hlen hg ht ha=>
  obtain⟨h1,h2⟩:=tys_ok G ht
  refine(pe_callB (call_isiN ts h2) (G.gl hg) G.mo.isinstance boot_isi' (pa_cons (A.e c X G a pa ha) (pa_cons (pe_tup h1) pa_nil rfl) (ha.star _ _)) (by decide) (by decide) (ha.star _ _) rfl).imp fun σ H Q h=>?_
  refine h.el fun m st τ d st' R0 S0 e post=>?_
  obtain⟨d1,s1,e1,e⟩:=bindD e
  obtain⟨nm,e2,e3⟩:=mapD e
  cases e3
  refine⟨m,st,τ,d1,s1,R0,S0,e1,fun x m1 H1 b1 t1 R1 ix=>?_⟩
  refine tCs_end _ σ H1 _ ⟨?_,fun pp hp=>?_⟩
  ·rw[List.length_map]
   exact Nat.le_of_lt (small1000 hlen)
  ·have sm:=same_new (o:=.tup (ts.map fun t=>V.ty t.name)) hp
   exact⟨m1,s1,d1,nm,x,pp,rfl,upd_same,R1.same sm,isD_mono (Sub.refl _) (Tr.of_same sm) _ _ ix,e2,post _ m1 _ b1 (t1.trans (Tr.of_same sm)) (R1.same sm) (mkBl _)⟩
 |@append a e x xp pe apos cpos ha he hl=>
  refine(pe_bm PySem.F.plainAttrs_list PySem.F.slot_list_append PySem.F.type_list_append mt_appendD (A.e c X G a _ ha) (args_ok A G (.cons he .nil)) rfl (by rw[he.star]; rfl) hl (he.star _ _) rfl).imp fun σ H Q h=>?_
  refine h.el fun m st τ d st' R0 S0 e0 post=>?_
  obtain⟨d1,s1,e1,e0⟩:=bindD e0
  split at e0
  ·rename_i hm
   obtain⟨q,e2,e0⟩:=bindO e0
   refine⟨m,st,τ,d1,s1,R0,S0,e1,fun v m1 H1 b1 t1 R1 i1=>⟨?_,m1,s1,τ,q.1,q.2,R1,S0.mono b1 t1,e2,fun xs m2 H2 b2 t2 R2 i2=>⟨m2,q.2,d1,q.1,d,st',R2,isD_mono b2 t2 _ _ i1,i2,e0,post.mono (b1.trans b2) (t1.trans t2)⟩⟩⟩
   cases d1 with
   |loc l=>
    have hm:(true&&(M.seqAt s1 (.loc l)).isSome)=true:=hm
    rw[Bool.true_and]at hm
    obtain⟨ds,hds⟩:=Option.isSome_iff_exists.mp hm
    obtain⟨a',xs,_,rfl,hq,_⟩:=R1.seq hds i1
    exact .inl ⟨rfl,xs,hq⟩
   |lst l=>
    have hm:(true&&(M.seqAt s1 (.lst l)).isSome)=true:=hm
    rw[Bool.true_and]at hm
    obtain⟨ds,hds⟩:=Option.isSome_iff_exists.mp hm
    obtain⟨a',xs,_,rfl,hq,_⟩:=R1.seq hds i1
    exact .inl ⟨rfl,xs,hq⟩
   |_=>cases hm
  ·cases e0
 |@gc a p hp hg ha=>exact(pe_gc (A.e c X G a _ ha)).imp fun _ _ _ h=>h
 |@dic es k v ks vs pos hP h15=>
  obtain⟨h1,h2,h3⟩:=pairs_pps A G (pos:=pos) hP
  refine(pe_disp h1 h2 h3 (by simp) h15).imp fun σ H Q h=>?_
  refine h.el fun m st τ d st' R0 S0 e post=>?_
  have e:((M.evs ((M.rn fns dl n).ev τ) es (st++[.dic []])).bind fun p=>match M.dicAt p.2 st.length with
   |some []=>(M.pairUp p.1).bind fun kvs=>if kvs.length≤15 then some (D.loc st.length,p.2.set st.length (.dic (M.dall kvs))) else none
   |_=>none)=some (d,st'):=e
  obtain⟨p,e1,e⟩:=bindO e
  split at e
  ·rename_i hdic
   obtain⟨kvs,e2,e⟩:=bindO e
   split at e
   ·rename_i hl
    cases e
    intro pp hp
    have sm:=same_new (o:=.dK []) hp
    refine pairs_run hP (R0.newD (kvs:=[]) (xs:=[]) hp rfl) (S0.mono (Sub.app _ _) (Tr.of_same sm)) e1 fun xs m1 H1 b1 t1 R1 ix=>?_
    obtain⟨ys,hkv,htw⟩:=pairs_kv ix e2
    have hloc:MS.IsD X.K m1 H1 (.loc st.length) (.ref pp):=isD_mono b1 (Tr.refl H1) _ _ (R0.newLoc (p:=pp))
    obtain⟨a',xs',ha',ea,hH,hkv0,hst⟩:=R1.dict hdic hloc
    cases ea
    have hx0:xs'=[]:=hkv0
    subst hx0
    have l1:=hkv.length
    refine⟨hH,ys,htw,by omega,?_⟩
    exact post _ m1 _ ((Sub.app _ _).trans b1) ((Tr.of_same sm).trans (t1.trans (Tr.putD hH))) (R1.putD hst ha' hH (hkv.merge (show IsKV X.K m1 H1 [] [] from rfl))) (isD_mono (Sub.refl _) (Tr.putD hH) _ _ hloc)
   ·cases e
  ·cases e
 |@didx a b pa pb pos ha hb hs=>exact pe_didxD (by omega) (A.e c X G a pa ha) (A.e c X G b pb hb) hs
 |@dgt a b pa pb apos cpos ha hb hbs hl htr=>
  exact pe_dgtD (by omega) (A.e c X G a pa ha) (A.e c X G b pb hb) ⟨hbs X.env,by rw[htr]; rfl,hl,htr X.env⟩
 |@gidx x ks ds b pb p0 pos hg hm hd hb hs=>
  obtain⟨ad,h1,h2⟩:=G.mo.gds x ks ds hm
  exact pe_gidxD (G.gl hg) h1 h2 hd (A.e c X G b pb hb) hs
 |@gnin x ks ds b pb p0 pos hg hm hd hb=>
  obtain⟨ad,h1,h2⟩:=G.mo.gds x ks ds hm
  exact pe_cmp (pc_ginD true (G.gl hg) h1 h2 hd (A.e c X G b pb hb)) rfl
 |@sli a lo hi pa pl ph p2 pos ha hl hh=>
  refine(pe_slice sl_D (A.e c X G a pa ha) (po_ok A G hl) (po_ok A G hh)).imp fun σ H Q h=>?_
  refine h.el fun m st τ d st' R0 S0 e post=>?_
  have e:(((M.rn fns dl n).ev τ st a).bind fun p=>(M.part (M.rn fns dl n) τ p.2 lo).bind fun l=>(M.part (M.rn fns dl n) τ l.2 hi).bind fun h=>M.sliD h.2 p.1 l.1 h.1)=some (d,st'):=e
  obtain⟨d1,s1,e1,e⟩:=bindD e
  obtain⟨l,e2,e⟩:=bindO e
  obtain⟨u,e3,e⟩:=bindO e
  exact⟨m,st,τ,d1,s1,R0,S0,e1,fun x m1 H1 b1 t1 R1 i1=>⟨m1,s1,τ,l.1,l.2,R1,S0.mono b1 t1,e2,fun m2 H2 b2 t2 R2=>⟨m2,l.2,τ,u.1,u.2,R2,S0.mono (b1.trans b2) (t1.trans t2),e3,fun m3 H3 b3 t3 R3=>
   ⟨m3,u.2,d1,d,st',R3,isD_mono (b2.trans b3) (t2.trans t3) _ _ i1,e,post.mono (b1.trans (b2.trans b3)) (t1.trans (t2.trans t3))⟩⟩⟩⟩
 |@comp t it elt sr tg iter pelt scope pos N hk hcell hfree hloc hlen hsrc hnd hs hi ht htl he=>
  have S:=comp_scope G hk hcell hfree hloc hlen hsrc
  exact(pe_comp (tt:=fun _ H Q=>Q true H) G.calm S (iter_ok A G hi) (fun C fp s H=>target_ok (G.inner hk hnd) ht fun i hi' x hx=>.inr (tlOk_of htl i hi' x hx)) (fun C fp s H=>test_nil) (fun C fp s H=>A.e _ _ (G.inner hk hnd) elt pelt he) (hs X.env)).imp fun σ H Q h=>
   tD_comp (fun _ _ _ q=>q) h
 |@compIf t it q elt sr tg iter pq pelt scope pos N hk hcell hfree hloc hlen hsrc hnd hs hi ht htl hq he=>
  have S:=comp_scope G hk hcell hfree hloc hlen hsrc
  exact(pe_comp G.calm S (iter_ok A G hi) (fun C fp s H=>target_ok (G.inner hk hnd) ht fun i hi' x hx=>.inr (tlOk_of htl i hi' x hx)) (fun C fp s H=>test_one (A.t _ _ (G.inner hk hnd) q pq hq)) (fun C fp s H=>A.e _ _ (G.inner hk hnd) elt pelt he) (hs X.env)).imp fun σ H Q h=>
   tD_comp (fun _ _ _ q=>q) h
end
end MS
end
section
namespace MS
open PySem PySem.Spec PyProof.Rows L2
open M (D Cell Store Sl E S T Src Fn Out R)
section
variable {fns:List Fn}{dl n:Nat}{c:Ctx}{X:Cx}
theorem tt_val{K:PySem.W.Frag}{r:R}{e:E}{σ:L2.St}{H:Hp}{Q:Bool→Hp→Prop}(hr:∀ τ st,M.stepTst r τ st e=(r.ev τ st e).bind fun p=>(M.truth p.2 p.1).map fun k=>(k,p.2))
  (h:tTs K (fun τ st=>M.stepTst r τ st e) σ H Q):(tD K fun τ st=>r.ev τ st e) σ H fun x H'=>∃ k,TruV K x H' k∧Q k H':=by
 refine h.el fun m st τ d st' R0 S0 e0 q=>?_
 have e0:=(hr τ st).symm.trans e0
 obtain⟨d1,s1,e1,e0⟩:=bindD e0
 obtain⟨k,e2,e3⟩:=mapD e0
 cases e3
 exact⟨m,st,τ,d1,s1,R0,S0,e1,fun x m1 H1 b1 t1 R1 i1=>⟨_,truV_of R1 i1 e2,q m1 H1 b1 t1 R1⟩⟩
theorem tt_bl{K:PySem.W.Frag}{r:R}{e:E}{f:Sl→Store→Option (D×Store)}{σ:L2.St}{H:Hp}{Q:Bool→Hp→Prop}(hr:∀ τ st,M.stepTst r τ st e=(f τ st).bind fun p=>(M.truth p.2 p.1).map fun k=>(k,p.2))(hf:∀ τ st d st',f τ st=some (d,st')→∃ k,d=.bl k)
  (h:tTs K (fun τ st=>M.stepTst r τ st e) σ H Q):tB (tD K f) σ H Q:=by
 refine h.el fun m st τ d st' R0 S0 e0 q=>?_
 have e0:=(hr τ st).symm.trans e0
 obtain⟨d1,s1,e1,e0⟩:=bindD e0
 obtain⟨k,rfl⟩:=hf _ _ _ _ e1
 cases e0
 exact⟨m,st,τ,_,_,R0,S0,e1,fun x m1 H1 b1 t1 R1 i1=>⟨_,i1.bl,q m1 H1 b1 t1 R1⟩⟩
theorem gin_bl{r:R}{τ:Sl}{st st':Store}{neg:Bool}{ks:List Str}{b:E}{d:D}(h:M.ginR r τ st neg ks b=some (d,st')):∃ k,d=.bl k:=by
 unfold M.ginR at h
 obtain⟨d1,s1,e1,h⟩:=bindD h
 cases d1 with
 |str z=>cases h; exact⟨_,rfl⟩
 |_=>cases h
theorem tt_and{K:PySem.W.Frag}{r:R}{a b:E}{σ:L2.St}{H:Hp}{Q:Bool→Hp→Prop}(h:tTs K (fun τ st=>M.stepTst r τ st (.and a b)) σ H Q):tAnd (tTs K fun τ st=>r.tst τ st a) (tTs K fun τ st=>r.tst τ st b) σ H Q:=by
 refine h.el fun m st τ d st' R0 S0 e0 q=>?_
 have e0:((r.tst τ st a).bind fun p=>if p.1 then r.tst τ p.2 b else some (false,p.2))=some (d,st'):=e0
 obtain⟨p,e1,e0⟩:=bindO e0
 refine⟨m,st,τ,p.1,p.2,R0,S0,e1,fun m1 H1 b1 t1 R1=>?_⟩
 cases hp:p.1 with
 |true=>
  rw[hp,if_pos rfl]at e0
  rw[if_pos rfl]
  exact⟨m1,p.2,τ,d,st',R1,S0.mono b1 t1,e0,fun m2 H2 b2 t2 R2=>q m2 H2 (b1.trans b2) (t1.trans t2) R2⟩
 |false=>
  rw[hp,if_neg Bool.false_ne_true]at e0
  cases e0
  rw[if_neg Bool.false_ne_true]
  exact q m1 H1 b1 t1 R1
theorem tt_or{K:PySem.W.Frag}{r:R}{a b:E}{σ:L2.St}{H:Hp}{Q:Bool→Hp→Prop}(h:tTs K (fun τ st=>M.stepTst r τ st (.or a b)) σ H Q):tOr (tTs K fun τ st=>r.tst τ st a) (tTs K fun τ st=>r.tst τ st b) σ H Q:=by
 refine h.el fun m st τ d st' R0 S0 e0 q=>?_
 have e0:((r.tst τ st a).bind fun p=>if p.1 then some (true,p.2) else r.tst τ p.2 b)=some (d,st'):=e0
 obtain⟨p,e1,e0⟩:=bindO e0
 refine⟨m,st,τ,p.1,p.2,R0,S0,e1,fun m1 H1 b1 t1 R1=>?_⟩
 cases hp:p.1 with
 |false=>
  rw[hp,if_neg Bool.false_ne_true]at e0
  rw[if_neg Bool.false_ne_true]
  exact⟨m1,p.2,τ,d,st',R1,S0.mono b1 t1,e0,fun m2 H2 b2 t2 R2=>q m2 H2 (b1.trans b2) (t1.trans t2) R2⟩
 |true=>
  rw[hp,if_pos rfl]at e0
  cases e0
  rw[if_pos rfl]
  exact q m1 H1 b1 t1 R1
theorem slot_back{K:PySem.W.Frag}{m m1:List Addr}{H H1 H2:Hp}{τ:Sl}{σ σ':L2.St}{i:Nat}{d0 d:D}(S0:SlotOk K m H τ σ)(S1:SlotOk K m1 H1 (τ.set i (some d0)) σ')(s:Sub m m1)(t:Tr H1 H2)(hd:∀ v,MS.IsD K m1 H1 d0 v→MS.IsD K m H2 d v):SlotOk K m H2 (τ.set i (some d)) σ':=by
 refine⟨by have:=S1.len; rwa [List.length_set]at this ⊢,fun j e ej=>?_⟩
 by_cases hj:i=j
 ·subst hj
  have hi:i<τ.length:=by
   have:=(List.getElem?_eq_some_iff.mp ej).1
   rwa [List.length_set]at this
  rw[List.getElem?_set_self hi]at ej
  cases ej
  obtain⟨v,e1,q⟩:=S1.at_ i d0 (List.getElem?_set_self hi)
  exact⟨v,e1,hd v q⟩
 ·rw[List.getElem?_set_ne hj]at ej
  obtain⟨v0,_,q0⟩:=S0.at_ j e ej
  obtain⟨v,e1,q⟩:=S1.at_ j e (by rw[List.getElem?_set_ne hj]; exact ej)
  exact⟨v,e1,isD_mono (Sub.refl m) t _ _ (isD_back s _ _ _ q0 q)⟩
theorem ps_setgc{p:Stmt}{f:Sl→Store→Option (D×Store)}{i:Nat}(h:PS X p (tS X.K fun τ st=>(f τ st).bind fun q=>(M.setT (.var i) q.1 τ).map fun τ'=>(Out.nx τ',q.2))):
  PS X p (tS X.K fun τ st=>((f τ st).map fun q=>M.gcD st q).bind fun q=>(M.setT (.var i) q.1 τ).map fun τ'=>(Out.nx τ',q.2)):=by
 intro pins s σ H Dn I q
 refine q.el fun m st τ o st' R0 S0 e post=>?_
 obtain⟨d,s1,e1,e⟩:=bindD e
 obtain⟨⟨d0,st0⟩,e2,e3⟩:=mapD e1
 obtain⟨τ',e4,e5⟩:=mapD e
 cases e5
 have e4:(if i<τ.length then some (τ.set i (some d)) else none)=some τ':=e4
 split at e4
 case isFalse=>cases e4
 case isTrue hi=>
  cases e4
  refine thn (h pins s σ H ⟨fun σ' H1=>∃ m1,Sub m m1∧Tr H H1∧Rel X.K m1 st0 H1∧SlotOk X.K m1 H1 (τ.set i (some d0)) σ',fun _ _=>False,fun _ _=>False,fun _ _=>False⟩ I ⟨m,st,τ,.nx (τ.set i (some d0)),st0,R0,S0,by show(f τ st).bind _=_; rw[e2]; show Option.map _ (if i<τ.length then some (τ.set i (some d0)) else none)=_; rw[if_pos hi]; rfl,fun m1 H1 b t R σ' S1=>⟨m1,b,t,R,S1⟩⟩) fun fl s2 hf=>?_
  cases fl with
  |next=>
   obtain⟨σ',H1,I1,m1,b1,t1,R1,S1⟩:=hf
   have plain:(d0,st0)=(d,s1)→SP X pins Dn .next s2:=fun z=>by
    cases z
    exact⟨σ',H1,I1,post m1 H1 b1 t1 R1 σ' S1⟩
   unfold M.gcD at e3
   split at e3
   ·rename_i hp
    split at e3
    ·rename_i hn
     cases e3
     exact⟨σ',H1,I1,post m H1 (Sub.refl m) t1 (R0.cutBack R1 b1 hp (Tr.refl H1) fun _ _ _ _ _ _=>rfl) σ' (slot_back S0 S1 b1 (Tr.refl H1) fun v q=>isD_nl _ _ hn q)⟩
    ·split at e3
     ·rename_i l hd
      simp only at hd
      split at e3
      ·rename_i hl
       split at e3
       ·rename_i ds hc
        split at e3
        ·rename_i hn
         cases e3
         subst hd
         obtain⟨a,ha⟩:=R1.addr hc
         obtain⟨xs,hx,ix⟩:=R1.cell l _ a hc ha
         obtain⟨o,I2⟩:=inv_freeze I1 hx
         have t2:Tr H1 (upd H1 a (.frz o (.lst xs))):=⟨fun b zs e=>by rw[upd_ne (ne_of e hx (by intro z; cases z))]; exact e,fun b o u e=>by rw[upd_ne (ne_of e hx (by intro z; cases z))]; exact e⟩
         refine⟨σ',_,I2,post m _ (Sub.refl m) (t1.trans t2) (R0.cutBack R1 b1 hp t2 fun l' c a' e ea w=>?_) σ' (slot_back S0 S1 b1 t2 fun v q=>?_)⟩
         ·refine upd_ne fun z=>?_
          subst z
          have hlt:=(List.getElem?_eq_some_iff.mp e).1
          have:=R1.nd l' l a' c _ (b1 l' a' ea) ha (pre_at hp e) hc w rfl
          omega
         ·obtain⟨a',ha',rfl⟩:=q.loc
          rw[ha]at ha'
          cases ha'
          exact mkLst (.inl ⟨o,upd_same⟩) (isDs_nl _ _ hn (isDs_mono (Sub.refl m1) t2 _ _ ix))
        ·exact plain e3
       ·exact plain e3
      ·exact plain e3
     ·exact plain e3
   ·exact plain e3
  |brk=>obtain⟨_,_,_,z⟩:=hf; exact z.elim
  |cont=>obtain⟨_,_,_,z⟩:=hf; exact z.elim
  |ret u=>obtain⟨_,_,_,_,_,z⟩:=hf; exact z.elim
theorem w_ok(A:AllOk fns dl n)(G':Good fns dl c X){e:E}{op:BoolOp}{ps:List Expr}{pos:Pos}(h:CkE c e (.BoolOp op ps pos)):PW X (.BoolOp op ps pos) (tTs X.K fun τ st=>M.stepTst (M.rn fns dl n) τ st e):=by
 have G:=G'
 cases h.out with
 |@and2 a b pa pb pos ha hb=>exact(pw_and (A.t c X G a pa ha) (pw_and1 (A.t c X G b pb hb))).imp fun σ H Q h=>tt_and h
 |@andN a b pa pb pd r pos ha hb=>exact(pw_and (A.t c X G a pa ha) (A.w c X G b _ _ _ hb)).imp fun σ H Q h=>tt_and h
 |@or2 a b pa pb pos ha hb=>exact(pw_or (A.t c X G a pa ha) (pw_or1 (A.t c X G b pb hb))).imp fun σ H Q h=>tt_or h
 |@orN a b pa pb pd r pos ha hb=>exact(pw_or (A.t c X G a pa ha) (A.w c X G b _ _ _ hb)).imp fun σ H Q h=>tt_or h
 |gc hp hg ha=>cases hp
theorem t_ok(A:AllOk fns dl n)(G':Good fns dl c X){e:E}{p:Expr}(h:CkE c e p):PT X p (tTs X.K fun τ st=>M.stepTst (M.rn fns dl n) τ st e):=by
 have G:=G'
 have hu:X.A.units+64<cLine:=G'.room.units
 have hA:=A.e c X G e p h
 cases h.out with
 |@not a pa pos ha=>
  refine(pt_not (A.t c X G a pa ha)).imp fun σ H Q h=>?_
  refine h.el fun m st τ d st' R0 S0 e0 q=>?_
  obtain⟨p,e1,e2⟩:=mapD e0
  cases e2
  exact⟨m,st,τ,p.1,p.2,R0,S0,e1,fun m1 H1 b1 t1 R1=>q m1 H1 b1 t1 R1⟩
 |and2 ha hb=>exact(w_ok A G' (.and2 ha hb)).pt
 |andN ha hb=>exact(w_ok A G' (.andN ha hb)).pt
 |or2 ha hb=>exact(w_ok A G' (.or2 ha hb)).pt
 |orN ha hb=>exact(w_ok A G' (.orN ha hb)).pt
 |@cmp op a b pa pb pos ha hb hm=>
  refine(pt_cmpR (op_cmpD hu op) (A.e c X G a pa ha) (A.e c X G b pb hb) hm).imp fun σ H Q h=>?_
  refine h.el fun m st τ d st' R0 S0 e0 q=>?_
  obtain⟨d1,s1,e1,e0⟩:=bindD e0
  obtain⟨d2,s2,e2,e0⟩:=bindD e0
  obtain⟨k,e3,e4⟩:=mapD e0
  cases e4
  exact⟨m,st,τ,d1,s1,R0,S0,e1,fun x m1 H1 b1 t1 R1 i1=>⟨m1,s1,τ,d2,s2,R1,S0.mono b1 t1,e2,fun y m2 H2 b2 t2 R2 i2=>
   ⟨m2,s2,d1,d2,.bl d,s2,R2,isD_mono b2 t2 _ _ i1,i2,by show Option.map _ (M.cmpD s2 op d1 d2)=_; rw[show M.cmpD s2 op d1 d2=some d from e3]; rfl,fun z m3 H3 b3 t3 R3 i3=>⟨d,i3.bl,q m3 H3 (b1.trans (b2.trans b3)) (t1.trans (t2.trans t3)) R3⟩⟩⟩⟩
 |@cmp2 op op' a b d pa pb pd pos ha hb hd hm=>
  refine(pt_chain (op_cmpD hu op) (op_cmpD hu op') (A.e c X G a pa ha) (A.e c X G b pb hb) (A.e c X G d pd hd) hm).imp fun σ H Q h=>?_
  refine h.el fun m st τ dd st' R0 S0 e q=>?_
  obtain⟨d1,s1,e1,e⟩:=bindD e
  obtain⟨d2,s2,e2,e⟩:=bindD e
  obtain⟨k,e3,e⟩:=bindO e
  refine⟨m,st,τ,d1,s1,R0,S0,e1,fun x m1 H1 b1 t1 R1 i1=>⟨m1,s1,τ,d2,s2,R1,S0.mono b1 t1,e2,fun y m2 H2 b2 t2 R2 i2=>
   ⟨m2,s2,d1,d2,.bl k,s2,R2,isD_mono b2 t2 _ _ i1,i2,by show Option.map _ (M.cmpD s2 op d1 d2)=_; rw[show M.cmpD s2 op d1 d2=some k from e3]; rfl,fun z m3 H3 b3 t3 R3 i3=>⟨k,i3.bl,?_⟩⟩⟩⟩
  cases k with
  |true=>
   rw[if_pos rfl]at e ⊢
   obtain⟨d3,s3,e4,e⟩:=bindD e
   obtain⟨k',e5,e6⟩:=mapD e
   cases e6
   exact⟨m3,s2,τ,d3,s3,R3,S0.mono (b1.trans (b2.trans b3)) (t1.trans (t2.trans t3)),e4,fun y' m4 H4 b4 t4 R4 i4=>
    ⟨m4,s3,d2,d3,.bl dd,s3,R4,isD_mono (b3.trans b4) (t3.trans t4) _ _ i2,i4,by show Option.map _ (M.cmpD s3 op' d2 d3)=_; rw[show M.cmpD s3 op' d2 d3=some dd from e5]; rfl,
     fun z m5 H5 b5 t5 R5 i5=>⟨dd,i5.bl,q m5 H5 (b1.trans (b2.trans (b3.trans (b4.trans b5)))) (t1.trans (t2.trans (t3.trans (t4.trans t5)))) R5⟩⟩⟩
  |false=>
   rw[if_neg Bool.false_ne_true]at e ⊢
   cases e
   exact⟨false,rfl,q m3 H3 (b1.trans (b2.trans b3)) (t1.trans (t2.trans t3)) R3⟩
 |ite hq ha hb=>exact fun pins s σ H Q I q=>by obtain⟨m,st,τ,d,st',_,_,z,_⟩:=q; cases z
 |@gnin x ks ds b pb p0 pos hg hm hd hb=>
  obtain⟨ad,h1,h2⟩:=G.mo.gds x ks ds hm
  exact(pt_cmp (pc_ginD true (G.gl hg) h1 h2 hd (A.e c X G b pb hb)) rfl).imp fun σ H Q h=>tt_bl (fun _ _=>rfl) (fun _ _ _ _ z=>gin_bl z) h
 |gc hp hg ha=>
  cases p with
  |Call=>exact(pt_truth hA fun _=>rfl).imp fun σ H Q h=>tt_val (fun _ _=>rfl) h
  |ListComp=>exact(pt_truth hA fun _=>rfl).imp fun σ H Q h=>tt_val (fun _ _=>rfl) h
  |List=>exact(pt_truth hA fun _=>rfl).imp fun σ H Q h=>tt_val (fun _ _=>rfl) h
  |BinOp=>exact(pt_truth hA fun _=>rfl).imp fun σ H Q h=>tt_val (fun _ _=>rfl) h
  |Subscript=>exact(pt_truth hA fun _=>rfl).imp fun σ H Q h=>tt_val (fun _ _=>rfl) h
  |_=>cases hp
 |_=>exact(pt_truth hA fun _=>rfl).imp fun σ H Q h=>tt_val (fun _ _=>rfl) h
theorem S_nx{K:PySem.W.Frag}{m:List Addr}{H:Hp}{τ:Sl}{st':Store}{Dn:Ends}{σ:L2.St}(p:PostO K m H (.nx τ) st' Dn){m':List Addr}{H':Hp}(b:Sub m m')(t:Tr H H')(R0:Rel K m' st' H')(S0:SlotOk K m' H' τ σ):Dn.nx σ H':=p m' H' b t R0 σ S0
theorem set_ok{K:PySem.W.Frag}{r:R}{i:Nat}{e:E}{te:TE}{Dn:Ends}{σ:L2.St}{H:Hp}(hte:∀ Q,(tD K fun τ st=>r.ev τ st e) σ H Q→te σ H Q)(h:tS K (fun τ st=>M.stepEx r τ st (.set (.var i) e)) Dn σ H):tAsg te (gName i) Dn σ H:=by
 refine h.el fun m st τ o st' R0 S0 e0 q=>?_
 obtain⟨d1,s1,e1,e0⟩:=bindD e0
 obtain⟨τ',e2,e3⟩:=mapD e0
 cases e3
 have e2:(if i<τ.length then some (τ.set i (some d1)) else none)=some τ':=e2
 split at e2
 ·cases e2
  exact hte _ ⟨m,st,τ,d1,s1,R0,S0,e1,fun x m1 H1 b1 t1 R1 i1=>S_nx q b1 t1 R1 ((S0.mono b1 t1).put i1)⟩
 ·cases e2
theorem setC_ok(IH:∀ j,j≤n→AllOk fns dl j)(G:Good fns dl c X)(hf:∀ x,X.fn x=true){i:Nat}{e:E}{x:Str}{p:Expr}{pos pos':Pos}(hi:c.N[i]?=some x)(hl:c.sc.names.lookup x=some .local∨c.sc.names.lookup x=some .cell)(he:CkE c e p)(hg:∀ a,e≠.gc a)(hc:∃ elt gs sc q,p=.ListComp elt gs sc q)(hs:∀ env:Env,env.scope=c.sc→(swapsWith p (some (.Name x pos')) pos.line env=pure false∨swapsWith p (some (.Name x pos')) pos.line env=pure true)):
  PS X (.Assign [.Name x pos'] p pos) (tS X.K fun τ st=>M.stepEx (M.rn fns dl n) τ st (.set (.var i) e)):=by
 have A:=IH n (Nat.le_refl n)
 have hN:X.N.Nodup:=by rw[G.N]; exact G.nd
 have loc:∀ {x:Str},(c.sc.names.lookup x=some .local∨c.sc.names.lookup x=some .cell)→Loc X.env.scope x:=fun {x} h=>by show X.env.scope.names.lookup x=_∨_=_; rw[G.sc]; exact h
 rcases hs X.env G.sc with z|z
 ·exact(ps_set hN (var_of G hi) (loc hl) (A.e c X G e p he) z (.inl (hf x))).imp fun D σ H h=>set_ok (fun _ q=>q) h
 ·cases n with
  |zero=>exact fun pins s σ H Dn I q=>by obtain⟨m,st,τ,d,st',_,_,w,_⟩:=q; cases w
  |succ n=>
   have A1:=IH n (Nat.le_succ n)
   have G1:=G
   obtain⟨elt,gs,sc,q,rfl⟩:=hc
   cases he.out with
   |@comp t it elt' sr tg iter pelt scope cpos N hk hcell hfree hloc hlen hsrc hnd hfs hit ht htl he=>
    have SC:=comp_scope G1 hk hcell hfree hloc hlen hsrc
    exact(ps_setComp (tt:=fun _ H Q=>Q true H) G1.calm SC (iter_ok A1 G1 hit) (fun C fp s H=>target_ok (G1.inner hk hnd) ht fun i hi' x hx=>.inr (tlOk_of htl i hi' x hx)) (fun C fp s H=>test_nil) (fun C fp s H=>A1.e _ _ (G1.inner hk hnd) elt' _ he) (hfs X.env) hN (var_of G hi) (loc hl) (.inl (hf x)) z).imp fun D σ H h=>
     set_ok (fun Q q=>tD_comp (fun _ _ _ q=>q) q) h
   |@compIf t it cq elt' sr tg iter pq pelt scope cpos N hk hcell hfree hloc hlen hsrc hnd hfs hit ht htl hq he=>
    have SC:=comp_scope G1 hk hcell hfree hloc hlen hsrc
    exact(ps_setComp G1.calm SC (iter_ok A1 G1 hit) (fun C fp s H=>target_ok (G1.inner hk hnd) ht fun i hi' x hx=>.inr (tlOk_of htl i hi' x hx)) (fun C fp s H=>test_one (A1.t _ _ (G1.inner hk hnd) cq pq hq)) (fun C fp s H=>A1.e _ _ (G1.inner hk hnd) elt' _ he) (hfs X.env) hN (var_of G hi) (loc hl) (.inl (hf x)) z).imp fun D σ H h=>
     set_ok (fun Q q=>tD_comp (fun _ _ _ q=>q) q) h
   |gc hp hg' ha=>exact(hg _ rfl).elim
theorem s1_ok(IH:∀ j,j≤n→AllOk fns dl j)(G:Good fns dl c X)(hf:∀ x,X.fn x=true){s:S}{p:Stmt}(h:CkS c s p):PS X p (tS X.K fun τ st=>M.stepEx (M.rn fns dl n) τ st s):=by
 have A:=IH n (Nat.le_refl n)
 have hN:X.N.Nodup:=by rw[G.N]; exact G.nd
 have loc:∀ {x:Str},(c.sc.names.lookup x=some .local∨c.sc.names.lookup x=some .cell)→Loc X.env.scope x:=fun {x} h=>by show X.env.scope.names.lookup x=_∨_=_; rw[G.sc]; exact h
 cases h with
 |@set i e x p pos pos' hi hl he hs=>exact(ps_set hN (var_of G hi) (loc hl) (A.e c X G e p he) (hs X.env) (.inl (hf x))).imp fun D σ H h=>set_ok (fun _ q=>q) h
 |@setC i e x p pos pos' hi hl he hc hs=>
  by_cases hgc:∃ a,e=.gc a
  ·obtain⟨a,rfl⟩:=hgc
   cases he.out with
   |gc hp hg ha=>
    cases n with
    |zero=>exact fun pins s σ H Dn I q=>by obtain⟨m,st,τ,d,st',_,_,w,_⟩:=q; cases w
    |succ n=>exact(ps_setgc (setC_ok (fun j hj=>IH j (Nat.le_succ_of_le hj)) G hf hi hl ha hg hc hs)).imp fun _ _ _ q=>q
  ·exact setC_ok IH G hf hi hl he (fun a z=>hgc ⟨a,z⟩) hc hs
 |@dset a i e pa pi pe tpos pos ha hi he hs=>
  refine(ps_dput (by have:=G.room.units; omega) (A.e c X G a pa ha) (A.e c X G i pi hi) (A.e c X G e pe he) (hs X.env)).imp fun Dn σ H h=>?_
  refine h.el fun m st τ o st' R0 S0 e0 q=>?_
  obtain⟨d1,s1,e1,e0⟩:=bindD e0
  obtain⟨d2,s2,e2,e0⟩:=bindD e0
  obtain⟨d3,s3,e3,e0⟩:=bindD e0
  cases d2 with
  |loc l=>
   have e0:((M.dicAt s3 l).bind fun kvs=>if M.isKey d3&&decide (kvs.length<M.lim) then some (Out.nx τ,s3.set l (.dic (M.dput kvs d3 d1))) else none)=some (o,st'):=e0
   obtain⟨kvs,e4,e0⟩:=bindO e0
   split at e0
   ·rename_i hk
    cases e0
    rw[Bool.and_eq_true,decide_eq_true_eq]at hk
    obtain⟨k,hk1⟩:=key_of hk.1
    refine⟨m,st,τ,d1,s1,R0,S0,e1,fun x m1 H1 b1 t1 R1 i1=>⟨m1,s1,τ,.loc l,s2,R1,S0.mono b1 t1,e2,fun y m2 H2 b2 t2 R2 i2=>⟨m2,s2,τ,d3,s3,R2,S0.mono (b1.trans b2) (t1.trans t2),e3,fun z m3 H3 b3 t3 R3 i3=>?_⟩⟩⟩
    obtain⟨a',xs,ha',rfl,hH,hkv,hst⟩:=R3.dict e4 (isD_mono b3 t3 _ _ i2)
    have hz:=key_V hk1 i3
    subst hz
    have l1:=hkv.length
    have l2:=lim_eq
    refine⟨a',_,rfl,DPut.k hH (by omega),?_⟩
    have iv:=isD_mono (b2.trans b3) (t2.trans t3) _ _ i1
    exact S_nx q (b1.trans (b2.trans b3)) (t1.trans (t2.trans (t3.trans (Tr.putD hH)))) (R3.putD hst ha' hH (hkv.put hk1 iv)) (S0.mono (b1.trans (b2.trans b3)) (t1.trans (t2.trans (t3.trans (Tr.putD hH)))))
   ·cases e0
  |_=>cases e0
 |@expr e p pos he hs=>
  refine(ps_expr (A.e c X G e p he) (hs X.env)).imp fun Dn σ H h=>?_
  refine h.el fun m st τ o st' R0 S0 e0 q=>?_
  obtain⟨p,e1,e2⟩:=mapD e0
  cases e2
  exact⟨m,st,τ,p.1,p.2,R0,S0,e1,fun x m1 H1 b1 t1 R1 i1=>S_nx q b1 t1 R1 (S0.mono b1 t1)⟩
 |@ret e p pos he=>
  refine(ps_ret (A.e c X G e p he)).imp fun Dn σ H h=>?_
  refine h.el fun m st τ o st' R0 S0 e0 q=>?_
  obtain⟨p,e1,e2⟩:=mapD e0
  cases e2
  exact⟨m,st,τ,p.1,p.2,R0,S0,e1,fun x m1 H1 b1 t1 R1 i1=>q m1 H1 b1 t1 R1 x i1⟩
 |@ite q a b pq pa pb pos hq ha hb=>
  refine(ps_if (A.t c X G q pq hq) (A.s c X G hf a pa ha) (A.s c X G hf b pb hb)).imp fun Dn σ H h=>?_
  refine h.el fun m st τ o st' R0 S0 e0 post=>?_
  obtain⟨p,e1,e0⟩:=bindO e0
  refine⟨m,st,τ,p.1,p.2,R0,S0,e1,fun m1 H1 b1 t1 R1=>?_⟩
  cases hp:p.1 with
  |true=>
   rw[hp,if_pos rfl]at e0
   rw[if_pos rfl]
   exact⟨m1,p.2,τ,o,st',R1,S0.mono b1 t1,e0,post.mono b1 t1⟩
  |false=>
   rw[hp,if_neg Bool.false_ne_true]at e0
   rw[if_neg Bool.false_ne_true]
   exact⟨m1,p.2,τ,o,st',R1,S0.mono b1 t1,e0,post.mono b1 t1⟩
 |@forr t it body tg iter pb pos ht hi hs hb=>
   refine(ps_for (by rw[G.xe]; exact PassesOwn.never) G.calm (iter_ok A G hi) (target_ok G ht fun i _ x _=>.inl (hf x)) (A.s c X G hf body pb hb) (hs X.env)).imp fun Dn σ H h=>?_
   refine h.el fun m st τ o st' R0 S0 e0 post=>?_
   obtain⟨p,e1,e0⟩:=bindO e0
   refine⟨m,st,τ,p.1,p.2,R0,S0,e1,fun m1 H1 J b1 t1 R1 hJ=>?_⟩
   refine⟨fun j k σ' H'=>∃ m2 st2 τ2,Sub m1 m2∧Tr H1 H'∧Rel X.K m2 st2 H'∧SlotOk X.K m2 H' τ2 σ'∧M.loop p.1 (fun τ st d=>(M.setT t d τ).bind fun τ'=>(M.rn fns dl n).ex τ' st body) k j τ2 st2=some (o,st'),
    ⟨_,m1,p.2,τ,Sub.refl _,Tr.refl _,R1,S0.mono b1 t1,e0⟩,?_⟩
   rintro j k σ' H' ⟨m2,st2,τ2,b2,t2,R2,S2,e4⟩
   cases k with
   |zero=>cases e4
   |succ k=>
    have e4:(p.1.at st2 j).bind (fun o=>match o with
     |none=>some (Out.nx τ2,st2)
     |some d=>((M.setT t d τ2).bind fun τ'=>(M.rn fns dl n).ex τ' st2 body).bind fun z=>match z.1 with
      |.nx τ'=>M.loop p.1 (fun τ st d=>(M.setT t d τ).bind fun τ'=>(M.rn fns dl n).ex τ' st body) k (j+1) τ' z.2
      |.ct τ'=>M.loop p.1 (fun τ st d=>(M.setT t d τ).bind fun τ'=>(M.rn fns dl n).ex τ' st body) k (j+1) τ' z.2
      |.bk τ'=>some (.nx τ',z.2)
      |.rt v=>some (.rt v,z.2))=some (o,st'):=e4
    obtain⟨oo,e5,e4⟩:=bindO e4
    cases oo with
    |none=>
     cases e4
     exact .inl ⟨(hJ.mono b2 t2).done R2 e5,S_nx post (b1.trans b2) (t1.trans t2) R2 S2⟩
    |some d=>
     obtain⟨hgo,hy⟩:=(hJ.mono b2 t2).next R2 e5
     dsimp only at e4
     obtain⟨z,e6,e4⟩:=bindO e4
     obtain⟨τ3,e7,e6⟩:=bindO e6
     refine .inr ⟨hgo,fun σ3 H3=>∃ m3 st3 τ3,Sub m1 m3∧Tr H1 H3∧Rel X.K m3 st3 H3∧SlotOk X.K m3 H3 τ3 σ3∧M.loop p.1 (fun τ st d=>(M.setT t d τ).bind fun τ'=>(M.rn fns dl n).ex τ' st body) k (j+1) τ3 st3=some (o,st'),fun σ3 H3 w3=>⟨k,Nat.lt_succ_self k,w3⟩,fun x H2 hyl=>?_⟩
     obtain⟨sm,ix⟩:=hy x H2 hyl
     have t2:=t2.trans (Tr.of_same sm)
     have R2:=R2.same sm
     have S2:=S2.mono (Sub.refl _) (Tr.of_same sm)
     refine gT_of ix S2 e7 fun σ3 S3=>?_
     refine⟨m2,st2,_,z.1,z.2,R2,S3,e6,fun m3 H3 b3 t3 R3=>?_⟩
     cases hz:z.1 with
     |nx τ4=>
      rw[hz]at e4
      exact fun σ4 S4=>⟨m3,z.2,τ4,b2.trans b3,t2.trans t3,R3,S4,e4⟩
     |ct τ4=>
      rw[hz]at e4
      exact fun σ4 S4=>⟨m3,z.2,τ4,b2.trans b3,t2.trans t3,R3,S4,e4⟩
     |bk τ4=>
      rw[hz]at e4
      cases e4
      exact fun σ4 S4=>S_nx post (b1.trans (b2.trans b3)) (t1.trans (t2.trans t3)) R3 S4
     |rt v=>
      rw[hz]at e4
      cases e4
      exact fun w iw=>post m3 H3 (b1.trans (b2.trans b3)) (t1.trans (t2.trans t3)) R3 w iw
theorem ss_ok(IH:∀ j,j≤n→AllOk fns dl j)(G:Good fns dl c X)(hf:∀ x,X.fn x=true):∀ {ss:List S}{ps:List Stmt},CkSs c ss ps→PSs X ps (tS X.K fun τ st=>M.exs (M.stepEx (M.rn fns dl n)) ss τ st)
 |_,_,.nil=>pss_nil.imp fun Dn σ H h=>by
  refine h.el fun m st τ o st' R0 S0 e0 q=>?_
  cases e0
  exact q m H (Sub.refl m) (Tr.refl H) R0 _ S0
 |_,_,.doc t=>(pss_cons ps_doc (ss_ok IH G hf t)).imp fun Dn σ H h=>h
 |_,_,.cons (s:=s) (ss:=ss) h t=>(pss_cons (s1_ok IH G hf h) (ss_ok IH G hf t)).imp fun Dn σ H hq=>by
  refine hq.el fun m st τ o st' R0 S0 e0 q=>?_
  obtain⟨p,e1,e0⟩:=bindO e0
  refine⟨m,st,τ,p.1,p.2,R0,S0,e1,fun m1 H1 b1 t1 R1=>?_⟩
  cases hp:p.1 with
  |nx τ1=>
   rw[hp]at e0
   exact fun σ1 S1=>⟨m1,p.2,τ1,o,st',R1,S1,e0,q.mono b1 t1⟩
  |rt d=>
   rw[hp]at e0
   cases e0
   exact q m1 H1 b1 t1 R1
  |bk d=>
   rw[hp]at e0
   cases e0
   exact q m1 H1 b1 t1 R1
  |ct d=>
   rw[hp]at e0
   cases e0
   exact q m1 H1 b1 t1 R1
end
theorem allOk(fns:List Fn)(dl:Nat):∀ n j,j≤n→AllOk fns dl j:=by
 intro n
 induction n with
 |zero=>intro j h; rw[Nat.le_zero.mp h]; exact allOk_zero fns dl
 |succ n ih=>
  intro j h
  rcases Nat.lt_or_ge j (n+1) with z|z
  ·exact ih j (by omega)
  ·have e:j=n+1:=by omega
   subst e
   have A:=ih n (Nat.le_refl n)
   exact⟨fun c X G e p h=>e_ok A G h,fun c X G e p h=>t_ok A G h,fun c X G e op ps pos h=>w_ok A G h,fun c X G hf ss ps h=>ss_ok ih G hf h⟩
structure FText (K:PySem.W.Frag) (mg:Str→Option Value) (fns:List Fn) (names:List Str) (glo:Glo) (f:Nat) (x:Str):Prop where
 ex:∃ (fa:Addr) (fd:FuncData) (st:Stmt) (N ps:List Str) (F:Fn),fns[f]?=some F∧Fun K x x st fa fd∧mg x=some (.ref fa)∧Binds K fd ps []∧FnScope N ps (defScope st)∧CkSs ⟨N,defScope st,names,glo⟩ F.body (defBody st)∧F.np=ps.length∧F.nl=N.length
theorem fun_ok{P:Program}{w:World}{K:PySem.W.Frag}{mg:Str→Option Value}{base:Heap}{fns:List Fn}{names:List Str}{glo:Glo}{n f:Nat}{x:Str}{fa:Addr}{fd:FuncData}{st:Stmt}{N ps:List Str}{F:Fn}(ih:FTab P w K mg base fns names n)(Mg:Mo K mg glo w.params)
  (hF:fns[f]?=some F) (hfun:Fun K x x st fa fd) (hsc:FnScope N ps (defScope st)) (hck:CkSs ⟨N,defScope st,names,glo⟩ F.body (defBody st)) (hnp:F.np=ps.length) (hnl:F.nl=N.length):FnOk P w K mg base CX0 (n+1) fa fd ps (spN K fns (n+1) f):=by
 have unf:∀ {ds:List D}{st0 st':Store}{d:D},M.callD fns (n+1) f ds st0=some (d,st')→ds.length=F.np∧((M.Lv fns n).ex (ds.map some++List.replicate (F.nl - ds.length) none) st0 F.body).bind (fun p=>match p.1 with
   |.rt d=>some (d,p.2)
   |.nx _=>some (D.non,p.2)
   |_=>none)=some (d,st'):=fun {ds st0 st' d} e=>by
  have e:M.stepCall fns (M.Lv fns n) f ds st0=some (d,st'):=e
  unfold M.stepCall at e
  rw[hF]at e
  dsimp only at e
  split at e
  ·rename_i hl
   exact⟨hl,e⟩
  ·cases e
 refine hfun.ok hsc (fun vs H Q E h=>?_) (fun cdv A outer s H vs Q E hr h=>?_)
 ·obtain⟨m,st0,ds,d,st',_,ix,e,_⟩:=h
  rw[← ix.length,(unf e).1,hnp]
 ·obtain⟨m,st0,ds,d,st',R0,ix,e,q⟩:=h
  obtain⟨hl,e⟩:=unf e
  obtain⟨p,e1,e2⟩:=bindO e
  obtain⟨k,e1⟩:=M.lim1_is e1
  have G:Good fns n ⟨N,defScope st,names,glo⟩ (cxOf CX0 P w K mg base N x (defScope st) fa cdv A outer s H E).nox:=⟨hr,rfl,rfl,rfl,hsc.nd,hsc.kind,ih,Mg,rfl⟩
  refine⟨_,(allOk fns n k k (Nat.le_refl k)).s _ _ G (fun _=>rfl) F.body (defBody st) hck,?_⟩
  refine⟨m,st0,ds.map some++List.replicate (F.nl - ds.length) none,p.1,p.2,R0,⟨?_,fun i d0 hi=>?_⟩,e1,fun m1 H1 b1 t1 R1=>?_⟩
  ·unfold L2.start
   rw[List.length_append,List.length_append,List.length_map,List.length_map,List.length_replicate,List.length_replicate,hnl,ix.length]
  ·unfold L2.start
   by_cases hlt:i<ds.length
   ·rw[List.getElem?_append_left (by simpa using hlt),List.getElem?_map]at hi
    have e3:ds[i]?=some d0:=by
     cases z:ds[i]? with
     |none=>rw[z]at hi; cases hi
     |some y=>rw[z]at hi; cases hi; rfl
    obtain⟨v,e4,iv⟩:=ix.get e3
    refine⟨v,?_,iv⟩
    rw[List.getElem?_append_left (by rw[List.length_map,← ix.length]; exact hlt),List.getElem?_map,e4]
    rfl
   ·rw[List.getElem?_append_right (by simpa using hlt),List.getElem?_replicate]at hi
    split at hi<;>cases hi
  ·cases hp:p.1 with
   |rt d1=>
    rw[hp]at e2
    cases e2
    exact fun v iv=>q v m1 H1 b1 t1 R1 iv
   |nx τ1=>
    rw[hp]at e2
    cases e2
    exact fun σ1 S1=>q _ m1 H1 b1 t1 R1 mkNon
   |bk d1=>rw[hp]at e2; cases e2
   |ct d1=>rw[hp]at e2; cases e2
theorem tab_ok{P:Program}{w:World}{K:PySem.W.Frag}{mg:Str→Option Value}{base:Heap}{fns:List Fn}{names:List Str}{glo:Glo}(T:∀ f x,names[f]?=some x→FText K mg fns names glo f x)(Mg:Mo K mg glo w.params):
  ∀ n,FTab P w K mg base fns names n:=by
 intro n
 induction n with
 |zero=>
  intro f x hx
  obtain⟨fa,fd,st,N,ps,F,hF,hfun,hm,hb,hsc,hck,hnp,hnl⟩:=(T f x hx).ex
  refine⟨fa,fd,ps,hm,?_,hfun.kp,hb⟩
  refine⟨fun vs H Q E h=>?_,fun A outer s H args us vs Q E hr he hbb hv h=>?_⟩
  ·obtain⟨m,st,ds,d,st',_,_,e,_⟩:=h; cases e
  ·obtain⟨m,st,ds,d,st',_,_,e,_⟩:=h; cases e
 |succ n ih=>
  intro f x hx
  obtain⟨fa,fd,st,N,ps,F,hF,hfun,hm,hb,hsc,hck,hnp,hnl⟩:=(T f x hx).ex
  exact⟨fa,fd,ps,hm,fun_ok ih Mg hF hfun hsc hck hnp hnl,hfun.kp,hb⟩
noncomputable def spLaw(K:PySem.W.Frag):Sp:=fun vs H Q _=>∃ (a:Addr) (ns:List Int),vs=[.ref a]∧SqF K H a (ns.map V.int)∧ns.length≤63∧∀ H',Q (.bl true) H'
theorem law_sp{K:PySem.W.Frag}{fns:List Fn}{n f:Nat}(h:∀ ns:List Int,ns.length≤63→∃ st',M.callD fns n f [.lst (ns.map D.int)] []=some (.bl true,st'))(vs:List V)(H:Hp)(Q:VK)(E:XK)(q:spLaw K vs H Q E):spN K fns n f vs H Q E:=by
 obtain⟨a,ns,rfl,hS,hl,k⟩:=q
 obtain⟨st',e⟩:=h ns hl
 refine⟨[],[],[.lst (ns.map D.int)],.bl true,st',⟨rfl,fun l l' b c c' e1 e2 e3 e4 w w'=>?_,fun l c b e1 e2=>?_⟩,mkCons (mkLst hS (isDs_ints ns)) mkNil,e,fun v m' H' _ _ _ i=>?_⟩
 ·simp at e3
 ·simp at e1
 ·rw[i.bl]; exact k H'
theorem only_sq{K:PySem.W.Frag}{H:Hp}{a:Addr}{xs:List V}(hO:Only H)(h:SqL K H a xs):SqF K H a xs:=by
 rcases h with (h|⟨o,h⟩)|h
 ·rcases hO a with z|⟨ob,ys,z⟩
  ·rw[h]at z; cases z
  ·rw[h]at z; cases z
 ·exact .inl ⟨o,h⟩
 ·exact .inr h
theorem walk_law{l:PySem.W.OpenLaw}{k:Nat}{q:Program}{loose:List Str}{XP:(Str→Option Value)→Heap→Prop}{YP:World→Heap→Prop}{d:DefRec}{K:Params→PySem.W.Frag}{x:Str}(hn:l.most=some 63)(hdf:d.params.defaults=[])(hr:Room k callerA)
  (hY:∀ (w:World) (h:Heap),YP w h→(K w.params).In h)
  (F:∀ (w:World) (mg:Str→Option Value) (fa:Addr) (h:Heap),(K w.params).In h→h.Ns mainGlobals mg→mg d.name=some (.ref fa)→
   ∃ fd:FuncData,(∀ (s:Shared) (u:Value),BindsTo s fd ⟨[u],[]⟩ [(x,u)])∧∀ base:Heap,(K w.params).In base→base.Ns mainGlobals mg→FnOk l.prog w (K w.params) mg base CX0 k fa fd [x] (spLaw (K w.params))) :
  PySem.W.WalkO q loose XP YP l.row.toRowW d [] (fun f vs=>PySem.call f vs):=
 L2.walk_of (n:=63) (k:=k) (x:=x) (CX:=fun _=>CX0) (sp:=fun w=>spLaw (K w.params)) hn (by decide) hdf hr hY F (fun _ _ a ns hl hO hS=>⟨a,ns,rfl,only_sq hO hS,hl,fun _=>rfl⟩) fun _ _ _ _ _ z=>z
noncomputable def srcOk(sr:List (Option Nat))(N cN:List Str)(scope:Scope):Bool:=(List.range sr.length).all fun j=>match sr[j]? with
 |some (some i)=>match N[j]? with
  |some x=>cN[i]?==some x&&scope.names.lookup x==some .free
  |none=>false
 |_=>true
theorem src_of{sr:List (Option Nat)}{N cN:List Str}{scope:Scope}(h:srcOk sr N cN scope=true):∀ (j i:Nat),sr[j]?=some (some i)→∃ x,N[j]?=some x∧cN[i]?=some x∧scope.names.lookup x=some .free:=by
 intro j i e
 unfold srcOk at h
 rw[List.all_eq_true]at h
 have:=h j (List.mem_range.mpr (List.getElem?_eq_some_iff.mp e).1)
 rw[e]at this
 dsimp only at this
 split at this
 ·rename_i x hx
  rw[Bool.and_eq_true,beq_iff_eq,beq_iff_eq]at this
  exact⟨x,hx,this.1,this.2⟩
 ·cases this
theorem swaps_or(elt:Expr)(gs:List Comprehension)(sc:Scope)(q:Pos)(t:Str)(p:Pos)(line:Nat)(env:Env):swapsWith (.ListComp elt gs sc q) (some (.Name t p)) line env=pure false∨swapsWith (.ListComp elt gs sc q) (some (.Name t p)) line env=pure true:=by
 have e:swapsWith (.ListComp elt gs sc q) (some (.Name t p)) line env=pure (env.blockKind==.function&&env.kindOf t==some .local&&p.line==q.line && !(sc.names.any fun(n,k)=>n==t&&(k==.local||k==.cell))):=rfl
 rw[e]
 cases (env.blockKind==.function&&env.kindOf t==some .local&&p.line==q.line && !(sc.names.any fun(n,k)=>n==t&&(k==.local||k==.cell))) with
 |false=>exact .inl rfl
 |true=>exact .inr rfl
inductive FnK (K:PySem.W.Frag) (x:Str) (st:Stmt):Addr→FuncData→Prop
 |mk {f:Addr}{od an:Option Addr}{sl:Array (Option Value)}{oc kV dc pm cd ct:Value}(a:PySem.W.nsIn K mainGlobals x=some (some (.ref f))) (l:K.lookup f=some ⟨oc,od,.func (PySem.W.fnOf x x (defArgs st) (defBody st) (defScope st) .none kV dc pm an cd ct),sl⟩) (c:PySem.W.codeIn K cd x=true) (k:PySem.W.keepIn K (.ref f)=true):FnK K x st f (PySem.W.fnOf x x (defArgs st) (defBody st) (defScope st) .none kV dc pm an cd ct)
theorem FnK.text{K:PySem.W.Frag}{h:Heap}{mg:Str→Option Value}{fns:List Fn}{names:List Str}{glo:Glo}{f:Nat}{x:Str}{st:Stmt}{fa:Addr}{fd:FuncData}{N ps:List Str}(q:FnK K x st fa fd)(X:K.In h)(G:h.Ns mainGlobals mg)(F:Fn)(sc:FnScope N ps (defScope st))(ck:CkSs ⟨N,defScope st,names,glo⟩ F.body (defBody st))(hF:fns[f]?=some F)(hnp:F.np=ps.length)(hnl:F.nl=N.length)
  (b:∀ (kV doc pm:Value) (an:Option Addr) (cdv ct:Value) (us:List Value),us.length=ps.length→bindArgs (PySem.W.fnOf x x (defArgs st) (defBody st) (defScope st) .none kV doc pm an cdv ct) ⟨us,[]⟩=pure (ps.zip us)):FText K mg fns names glo f x:=by
 cases q with
 |mk a l c k=>exact⟨_,_,st,N,ps,F,hF,fun_mk l c k,PySem.W.mg_of X G a,(fun_mk l c k).binds b,sc,ck,hnp,hnl⟩
inductive NoB (K:PySem.W.Frag):Prop
 |mk (z0:PySem.W.nsIn K mainGlobals "len" = some none) (z1:PySem.W.nsIn K mainGlobals "min" = some none) (z2:PySem.W.nsIn K mainGlobals "max" = some none) (z3:PySem.W.nsIn K mainGlobals "tuple" = some none) (z4:PySem.W.nsIn K mainGlobals "list" = some none) (z5:PySem.W.nsIn K mainGlobals "all" = some none) (z6:PySem.W.nsIn K mainGlobals "sorted" = some none) (z7:PySem.W.nsIn K mainGlobals "isinstance" = some none) (z8:PySem.W.nsIn K mainGlobals "range" = some none) (z9:PySem.W.nsIn K mainGlobals "int" = some none) (z10:PySem.W.nsIn K mainGlobals "bool" = some none) (z11:PySem.W.nsIn K mainGlobals "str" = some none) (z12:PySem.W.nsIn K mainGlobals "zip" = some none) (z13:PySem.W.nsIn K mainGlobals "any" = some none) (z14:PySem.W.nsIn K mainGlobals "enumerate" = some none) (z15:PySem.W.nsIn K mainGlobals "reversed" = some none) (z16:PySem.W.nsIn K mainGlobals "sum" = some none) (z17:PySem.W.nsIn K mainGlobals "set" = some none) (z18:PySem.W.nsIn K mainGlobals "dict" = some none):NoB K
theorem NoB.mo{K:PySem.W.Frag}{h:Heap}{mg:Str→Option Value}{glo:Glo}{prm:Params}(z:NoB K)(X:K.In h)(G:h.Ns mainGlobals mg)(h1:∀ x ks ds,(x,ks,ds)∈glo.ds→∃ a,mg x=some (.ref a)∧FDict prm K a ks ds)(h2:∀ x d,(x,d)∈glo.cs→∃ u v,mg x=some u∧RelV v u∧∀ m H,IsD K m H d v):Mo K mg glo prm:=by
 obtain⟨z0,z1,z2,z3,z4,z5,z6,z7,z8,z9,z10,z11,z12,z13,z14,z15,z16,z17,z18⟩:=z
 exact⟨h1,h2,PySem.W.mg_none_of X G z0,PySem.W.mg_none_of X G z1,PySem.W.mg_none_of X G z2,PySem.W.mg_none_of X G z3,PySem.W.mg_none_of X G z4,PySem.W.mg_none_of X G z5,PySem.W.mg_none_of X G z6,PySem.W.mg_none_of X G z7,PySem.W.mg_none_of X G z8,PySem.W.mg_none_of X G z9,PySem.W.mg_none_of X G z10,PySem.W.mg_none_of X G z11,PySem.W.mg_none_of X G z12,PySem.W.mg_none_of X G z13,PySem.W.mg_none_of X G z14,PySem.W.mg_none_of X G z15,PySem.W.mg_none_of X G z16,PySem.W.mg_none_of X G z17,PySem.W.mg_none_of X G z18⟩
inductive TupK (K:PySem.W.Frag) (a:Addr) (vs:Array Value):Prop
 |mk {gd:Option Addr}{gn:Nat}{gs:Array (Option Value)}(h:K.lookup a=some ⟨.type "tuple",gd,.seq vs gn,gs⟩):TupK K a vs
end MS
end
namespace K05
open PySem PySem.Spec PyProof.Rows L2 MS
open M (D Cell Store Sl E S T Src Fn Out R)
def top(i:Nat):Stmt:=PySem.Challenge.pw_dipright_k05_facts_by_their_shape.main.body.getD i (.Pass ⟨0,0,0,0⟩)
noncomputable def names:List Str:=["bounds","fits","all_fit","is_cell","good_steps","good_outcrops","sound_vein","numbers_agree","sound","_law_draw","_law_same","_law_size","_law_rect","_law_steps","_law_outs","_law_who","_law_pick","_law_vein","_law_claim_fact","_law_fact","_law_dig","_law_pay","_law_num","_law_bounds","_law_sound_vein","_law_sound","_law_some_fact","_law_thing","_law_vein_bent","_law_bent_fact","law"]
noncomputable def glo:Glo:=⟨[("COINS",(.tup [(.int 1),(.int 1000000)])),("DAYS",(.tup [(.int 1),(.int 400)])),("FOLK",(.tup [(.int 1),(.int 40)])),("LINES",(.tup [(.int 1),(.int 23)])),("MOST_COLUMNS",(.int 16)),("SIDES",(.tup [(.int 0),(.int 1)])),("STEPS",(.tup [(.int 0),(.int 4)]))],[("ASKS",["join","stake","work","sell","part","give","dig","pay"],[(.tup [(.str "day"),(.str "day"),(.str "below")]),(.tup [(.str "folk"),(.str "x"),(.str "y"),(.str "x"),(.str "y")]),(.tup [(.str "day")]),(.tup [(.str "day"),(.str "folk")]),(.tup [(.str "day"),(.str "side"),(.str "line"),(.str "folk")]),(.tup [(.str "day")]),(.tup [(.str "folk"),(.str "x"),(.str "y"),(.str "x"),(.str "y"),(.str "floor"),(.str "coins")]),(.tup [(.str "folk"),(.str "folk"),(.str "coins")])])]⟩
abbrev s_bounds:Stmt:=top 9
theorem sc_bounds:FnScope ["size"] ["size"] (defScope s_bounds):=⟨rfl,rfl,rfl,by decide +kernel,rfl,by decide +kernel,by decide +kernel⟩
theorem ck_bounds:CkSs ⟨["size"],defScope s_bounds,names,glo⟩ b_bounds (defBody s_bounds):=
  (.cons (.ret (.dic (.cons .str (.glo rfl (.tail _ (.head _)) rfl) (.cons .str (.glo rfl (.tail _ (.tail _ (.head _))) rfl) (.cons .str (.tup (.cons .int (.cons (.bin (.idx .v .int) .int) .nil))) (.cons .str (.tup (.cons .int (.cons (.bin (.idx .v .int) .int) .nil))) (.cons .str (.tup (.cons .int (.cons (.idx .v .int) .nil))) (.cons .str (.tup (.cons .int (.cons (.idx .v .int) .nil))) (.cons .str (.glo rfl (.tail _ (.tail _ (.tail _ (.tail _ (.tail _ (.head _)))))) rfl) (.cons .str (.glo rfl (.tail _ (.tail _ (.tail _ (.head _)))) rfl) (.cons .str (.glo rfl (.tail _ (.tail _ (.tail _ (.tail _ (.tail _ (.tail _ (.head _))))))) rfl) (.cons .str (.glo rfl (.head _) rfl) .nil)))))))))) (by decide)))
  .nil)
abbrev s_fits:Stmt:=top 10
theorem sc_fits:FnScope ["value","bound"] ["value","bound"] (defScope s_fits):=⟨rfl,rfl,rfl,by decide +kernel,rfl,by decide +kernel,by decide +kernel⟩
theorem ck_fits:CkSs ⟨["value","bound"],defScope s_fits,names,glo⟩ b_fits (defBody s_fits):=
  (.cons (.ite (.or2 (.isi1 .v) (.not (.isi1 .v))) (.cons (.ret .bl)
  .nil) .nil)
  (.cons (.ret (.cmp2 (.idx .v .int) .v (.idx .v .int) (by with_unfolding_all rfl)))
  .nil))
abbrev s_all_fit:Stmt:=top 11
theorem sc_all_fit:FnScope ["size","asked","values","known"] ["size","asked","values"] (defScope s_all_fit):=⟨rfl,rfl,rfl,by decide +kernel,rfl,by decide +kernel,by decide +kernel⟩
theorem ck_all_fit:CkSs ⟨["size","asked","values","known"],defScope s_all_fit,names,glo⟩ b_all_fit (defBody s_all_fit):=
  (.cons (.ite (.cmp (.bcall (.cons .v .nil)) (.bcall (.cons .v .nil))) (.cons (.ret .bl)
  .nil) .nil)
  (.cons (.set rfl (.inr rfl) (.gc (.call (.cons .v .nil))) (fun _=>rfl))
  (.cons (.ret (.bcall (.cons (.gc (.comp (N:=["value","kind","known"]) (.zip rfl .v .v) (.tup (.cons rfl (.inl rfl) (.cons rfl (.inl rfl) .nil))) (.gc (.call (.cons .v (.cons (.didx (.var rfl (.inr (.inl rfl)) rfl rfl) .v (fun _ _=>rfl)) .nil)))))) .nil)))
  .nil)))
abbrev s_is_cell:Stmt:=top 12
theorem sc_is_cell:FnScope ["size","thing"] ["size","thing"] (defScope s_is_cell):=⟨rfl,rfl,rfl,by decide +kernel,rfl,by decide +kernel,by decide +kernel⟩
theorem ck_is_cell:CkSs ⟨["size","thing"],defScope s_is_cell,names,glo⟩ b_is_cell (defBody s_is_cell):=
  (.cons (.ret (.and2 (.isi1 .v) (.gc (.call (.cons .v (.cons (.tup (.cons .str (.cons .str .nil))) (.cons .v .nil)))))))
  .nil)
abbrev s_good_steps:Stmt:=top 13
theorem sc_good_steps:FnScope ["size","steps"] ["size","steps"] (defScope s_good_steps):=⟨rfl,rfl,rfl,by decide +kernel,rfl,by decide +kernel,by decide +kernel⟩
theorem ck_good_steps:CkSs ⟨["size","steps"],defScope s_good_steps,names,glo⟩ b_good_steps (defBody s_good_steps):=
  (.cons (.ret (.and2 (.isi1 .v) (.gc (.call (.cons .v (.cons (.bin (.tup (.cons .str .nil)) (.idx .v .int)) (.cons .v .nil)))))))
  .nil)
abbrev s_good_outcrops:Stmt:=top 14
theorem sc_good_outcrops:FnScope ["size","outcrops"] ["size","outcrops"] (defScope s_good_outcrops):=⟨rfl,rfl,rfl,by decide +kernel,rfl,by decide +kernel,by decide +kernel⟩
theorem ck_good_outcrops:CkSs ⟨["size","outcrops"],defScope s_good_outcrops,names,glo⟩ b_good_outcrops (defBody s_good_outcrops):=
  (.cons (.ite (.or2 (.not (.isi1 .v)) (.not (.cmp2 .int (.bcall (.cons .v .nil)) (.glo rfl (.tail _ (.tail _ (.tail _ (.tail _ (.head _))))) rfl) (by with_unfolding_all rfl)))) (.cons (.ret .bl)
  .nil) .nil)
  (.cons (.ite (.not (.bcall (.cons (.gc (.comp (N:=["thing","size"]) (.seq .v) (.var rfl (.inl rfl)) (.gc (.call (.cons (.var rfl (.inr (.inl rfl)) rfl rfl) (.cons .v .nil)))))) .nil))) (.cons (.ret .bl)
  .nil) .nil)
  (.cons (.ret (.cmp (.lenset rfl rfl .v) (.bcall (.cons .v .nil))))
  .nil)))
abbrev s_sound_vein:Stmt:=top 15
theorem sc_sound_vein:FnScope ["size","fact"] ["size","fact"] (defScope s_sound_vein):=⟨rfl,rfl,rfl,by decide +kernel,rfl,by decide +kernel,by decide +kernel⟩
theorem ck_sound_vein:CkSs ⟨["size","fact"],defScope s_sound_vein,names,glo⟩ b_sound_vein (defBody s_sound_vein):=
  (.cons (.ret (.andN (.cmp (.bcall (.cons .v .nil)) .int) (.and2 (.gc (.call (.cons .v (.cons (.idx .v .int) .nil)))) (.gc (.call (.cons .v (.cons (.idx .v .int) .nil)))))))
  .nil)
abbrev s_numbers_agree:Stmt:=top 16
theorem sc_numbers_agree:FnScope ["fact"] ["fact"] (defScope s_numbers_agree):=⟨rfl,rfl,rfl,by decide +kernel,rfl,by decide +kernel,by decide +kernel⟩
theorem ck_numbers_agree:CkSs ⟨["fact"],defScope s_numbers_agree,names,glo⟩ b_numbers_agree (defBody s_numbers_agree):=
  (.cons (.ite (.cmp (.idx .v .int) .str) (.cons (.ret (.and2 (.cmp (.idx .v .int) (.idx .v .int)) (.cmp (.idx .v .int) (.idx .v .int))))
  .nil) .nil)
  (.cons (.ite (.cmp (.idx .v .int) .str) (.cons (.ret (.cmp (.idx .v .int) (.idx .v .int)))
  .nil) .nil)
  (.cons (.ret .bl)
  .nil)))
abbrev s_sound:Stmt:=top 17
theorem sc_sound:FnScope ["size","fact"] ["size","fact"] (defScope s_sound):=⟨rfl,rfl,rfl,by decide +kernel,rfl,by decide +kernel,by decide +kernel⟩
theorem ck_sound:CkSs ⟨["size","fact"],defScope s_sound,names,glo⟩ b_sound (defBody s_sound):=
  (.cons (.ite (.cmp (.idx .v .int) .str) (.cons (.ret (.call (.cons .v (.cons .v .nil))))
  .nil) .nil)
  (.cons (.ite (.gnin rfl (.head _) rfl (.idx .v .int)) (.cons (.ret .bl)
  .nil) .nil)
  (.cons (.ret (.and2 (.gc (.call (.cons .v (.cons (.gidx rfl (.head _) rfl (.idx .v .int) (fun _ _=>rfl)) (.cons (.gc (.sli .v (.some .int) .none)) .nil))))) (.gc (.call (.cons .v .nil)))))
  .nil)))
abbrev s_law_draw:Stmt:=top 19
theorem sc_law_draw:FnScope ["_law_script","_law_k","_law_j","_law_many","_law_cell","_law_turn","_law_rest","_law_step","_law_one","_law_two"] ["_law_script","_law_k","_law_j","_law_many"] (defScope s_law_draw):=⟨rfl,rfl,rfl,by decide +kernel,rfl,by decide +kernel,by decide +kernel⟩
theorem ck_law_draw:CkSs ⟨["_law_script","_law_k","_law_j","_law_many","_law_cell","_law_turn","_law_rest","_law_step","_law_one","_law_two"],defScope s_law_draw,names,glo⟩ b_law_draw (defBody s_law_draw):=
  (.cons (.st .int)
  (.cons (.st .int)
  (.cons (.ite (.cmp (.bcall (.cons .v .nil)) .int) (.cons (.st (.idx .v (.bin .v (.bcall (.cons .v .nil)))))
  (.cons (.st (.bin .v (.bcall (.cons .v .nil))))
  .nil)) .nil)
  (.cons (.st .v)
  (.cons (.forr (.var rfl (.inl rfl)) (.rng1 rfl .v) (fun _ _=>rfl) (.cons (.st (.bin .v (.bin .int .int)))
  .nil))
  (.cons (.ite (.andN (.cmp .v .int) (.and2 (.cmp .v (.bin .int .int)) (.cmp .v .int))) (.cons (.ret (.bin (.bin .v (.bin .int .int)) .v))
  .nil) .nil)
  (.cons (.st (.bin (.bin (.bin (.bin (.bin .v .int) (.bin .v .int)) (.bin .v .int)) .int) .int))
  (.cons (.st (.bin (.bin (.bin .v .int) (.bin .v .int)) .int))
  (.cons (.st (.bin (.bin (.bin .v (.bin (.bin .v .int) .int)) .v) .int))
  (.cons (.ret (.bin (.bin (.bin (.bin (.bin .v .int) (.bin .v .int)) (.bin .v .int)) .int) .v))
  .nil))))))))))
abbrev s_law_same:Stmt:=top 20
theorem sc_law_same:FnScope ["_law_found","_law_due","_law_like"] ["_law_found","_law_due"] (defScope s_law_same):=⟨rfl,rfl,rfl,by decide +kernel,rfl,by decide +kernel,by decide +kernel⟩
theorem ck_law_same:CkSs ⟨["_law_found","_law_due","_law_like"],defScope s_law_same,names,glo⟩ b_law_same (defBody s_law_same):=
  (.cons (.ite (.isiN (by decide) rfl (.cons (by decide) rfl (.cons (by decide) rfl .nil)) (.var rfl (.inr (.inl rfl)) rfl rfl)) (.cons (.ite (.or2 (.not (.isiN (by decide) rfl (.cons (by decide) rfl (.cons (by decide) rfl .nil)) (.var rfl (.inr (.inl rfl)) rfl rfl))) (.cmp (.bcall (.cons (.var rfl (.inr (.inl rfl)) rfl rfl) .nil)) (.bcall (.cons (.var rfl (.inr (.inl rfl)) rfl rfl) .nil)))) (.cons (.ret .bl)
  .nil) .nil)
  (.cons (.st (.bcall (.cons (.gc (.comp (N:=["_law_k","_law_found","_law_due"]) (.rng1 rfl (.bcall (.cons (.var rfl (.inr (.inl rfl)) rfl rfl) .nil))) (.var rfl (.inl rfl)) (.gc (.call (.cons (.idx (.var rfl (.inr (.inl rfl)) rfl rfl) .v) (.cons (.idx (.var rfl (.inr (.inl rfl)) rfl rfl) .v) .nil)))))) .nil)))
  (.cons (.ret (.and2 .v (.cmp (.isi1 (.var rfl (.inr (.inl rfl)) rfl rfl)) (.isi1 (.var rfl (.inr (.inl rfl)) rfl rfl)))))
  .nil))) .nil)
  (.cons (.st (.cmp (.isi1 (.var rfl (.inr (.inl rfl)) rfl rfl)) (.isi1 (.var rfl (.inr (.inl rfl)) rfl rfl))))
  (.cons (.st (.and2 .v (.cmp (.isi1 (.var rfl (.inr (.inl rfl)) rfl rfl)) (.isi1 (.var rfl (.inr (.inl rfl)) rfl rfl)))))
  (.cons (.ret (.andN .v (.and2 (.cmp (.isi1 (.var rfl (.inr (.inl rfl)) rfl rfl)) (.isi1 (.var rfl (.inr (.inl rfl)) rfl rfl))) (.cmp (.var rfl (.inr (.inl rfl)) rfl rfl) (.var rfl (.inr (.inl rfl)) rfl rfl)))))
  .nil))))
abbrev s_law_size:Stmt:=top 21
theorem sc_law_size:FnScope ["_law_script","_law_k","_law_wide","_law_tall","_law_deep","_law_sizes"] ["_law_script","_law_k"] (defScope s_law_size):=⟨rfl,rfl,rfl,by decide +kernel,rfl,by decide +kernel,by decide +kernel⟩
theorem ck_law_size:CkSs ⟨["_law_script","_law_k","_law_wide","_law_tall","_law_deep","_law_sizes"],defScope s_law_size,names,glo⟩ b_law_size (defBody s_law_size):=
  (.cons (.st (.bin .int (.gc (.call (.cons .v (.cons .v (.cons .int (.cons .int .nil))))))))
  (.cons (.st (.bin .int (.gc (.call (.cons .v (.cons .v (.cons .int (.cons .int .nil))))))))
  (.cons (.st (.gc (.call (.cons .v (.cons .v (.cons .int (.cons .int .nil)))))))
  (.cons (.st (.gc (.lst (.cons (.tup (.cons .int (.cons (.bin .int (.bin .v .int)) (.cons (.bin .v .int) .nil)))) (.cons (.tup (.cons (.bin .int (.bin .v .int)) (.cons .int (.cons (.bin .v .int) .nil)))) .nil)))))
  (.cons (.st (.gc (.bin .v (.gc (.lst (.cons (.tup (.cons (.bin .int (.bin .v .int)) (.cons (.bin .int (.bin .v .int)) (.cons .int .nil)))) (.cons (.tup (.cons .v (.cons .v (.cons .v .nil)))) .nil)))))))
  (.cons (.ret (.idx .v (.bcall (.cons .int (.cons (.gc (.call (.cons .v (.cons .v (.cons .int (.cons .int .nil)))))) .nil)))))
  .nil))))))
abbrev s_law_rect:Stmt:=top 22
theorem sc_law_rect:FnScope ["_law_script","_law_k","_law_j","_law_wide","_law_tall","_law_x","_law_y"] ["_law_script","_law_k","_law_j","_law_wide","_law_tall"] (defScope s_law_rect):=⟨rfl,rfl,rfl,by decide +kernel,rfl,by decide +kernel,by decide +kernel⟩
theorem ck_law_rect:CkSs ⟨["_law_script","_law_k","_law_j","_law_wide","_law_tall","_law_x","_law_y"],defScope s_law_rect,names,glo⟩ b_law_rect (defBody s_law_rect):=
  (.cons (.st (.gc (.bcall (.cons (.gc (.lst (.cons (.call (.cons .v (.cons .v (.cons .v (.cons .v .nil))))) (.cons (.call (.cons .v (.cons .v (.cons (.bin .v .int) (.cons .v .nil))))) .nil)))) .nil))))
  (.cons (.st (.gc (.bcall (.cons (.gc (.lst (.cons (.call (.cons .v (.cons .v (.cons (.bin .v .int) (.cons .v .nil))))) (.cons (.call (.cons .v (.cons .v (.cons (.bin .v .int) (.cons .v .nil))))) .nil)))) .nil))))
  (.cons (.ret (.tup (.cons (.idx .v .int) (.cons (.idx .v .int) (.cons (.idx .v .int) (.cons (.idx .v .int) .nil))))))
  .nil)))
abbrev s_law_steps:Stmt:=top 23
theorem sc_law_steps:FnScope ["_law_script","_law_k","_law_j","_law_deep"] ["_law_script","_law_k","_law_j","_law_deep"] (defScope s_law_steps):=⟨rfl,rfl,rfl,by decide +kernel,rfl,by decide +kernel,by decide +kernel⟩
theorem ck_law_steps:CkSs ⟨["_law_script","_law_k","_law_j","_law_deep"],defScope s_law_steps,names,glo⟩ b_law_steps (defBody s_law_steps):=
  (.cons (.ret (.bcall (.cons (.gc (.comp (N:=["_law_at","_law_script","_law_k","_law_j"]) (.rng1 rfl .v) (.var rfl (.inl rfl)) (.idx (.gc (.lst (.cons .int (.cons .int (.cons .int (.cons .int (.cons .int (.cons .int (.cons .int .nil))))))))) (.gc (.call (.cons (.var rfl (.inr (.inl rfl)) rfl rfl) (.cons (.var rfl (.inr (.inl rfl)) rfl rfl) (.cons (.bin (.var rfl (.inr (.inl rfl)) rfl rfl) .v) (.cons .int .nil))))))))) .nil)))
  .nil)
abbrev s_law_outs:Stmt:=top 24
theorem sc_law_outs:FnScope ["_law_script","_law_k","_law_j","_law_size_here","_law_count","_law_first","_law_stride","_law_found","_law_at","_law_place"] ["_law_script","_law_k","_law_j","_law_size_here"] (defScope s_law_outs):=⟨rfl,rfl,rfl,by decide +kernel,rfl,by decide +kernel,by decide +kernel⟩
theorem ck_law_outs:CkSs ⟨["_law_script","_law_k","_law_j","_law_size_here","_law_count","_law_first","_law_stride","_law_found","_law_at","_law_place"],defScope s_law_outs,names,glo⟩ b_law_outs (defBody s_law_outs):=
  (.cons (.st (.bin (.idx .v .int) (.idx .v .int)))
  (.cons (.st (.gc (.call (.cons .v (.cons .v (.cons .v (.cons .v .nil)))))))
  (.cons (.st (.bin .int (.gc (.call (.cons .v (.cons .v (.cons (.bin .v .int) (.cons .v .nil))))))))
  (.cons (.st (.lst .nil))
  (.cons (.forr (.var rfl (.inl rfl)) (.rng1 rfl (.bin .int (.gc (.call (.cons .v (.cons .v (.cons (.bin .v .int) (.cons (.idx (.gc (.lst (.cons .int (.cons .int (.cons .int (.cons .int .nil)))))) (.gc (.call (.cons .v (.cons .v (.cons (.bin .v .int) (.cons .int .nil))))))) .nil)))))))) (fun _ _=>rfl) (.cons (.st (.bin (.bin .v (.bin .v .v)) .v))
  (.cons (.ite (.cmp (.tup (.cons (.bin .v (.idx .v .int)) (.cons (.bin .v (.idx .v .int)) .nil))) .v) (.cons (.expr (.append .v (.tup (.cons (.bin .v (.idx .v .int)) (.cons (.bin .v (.idx .v .int)) .nil))) rfl) (fun _=>rfl))
  .nil) .nil)
  .nil)))
  (.cons (.ret (.bcall (.cons .v .nil)))
  .nil))))))
abbrev s_law_who:Stmt:=top 25
theorem sc_law_who:FnScope ["_law_script","_law_k","_law_j"] ["_law_script","_law_k","_law_j"] (defScope s_law_who):=⟨rfl,rfl,rfl,by decide +kernel,rfl,by decide +kernel,by decide +kernel⟩
theorem ck_law_who:CkSs ⟨["_law_script","_law_k","_law_j"],defScope s_law_who,names,glo⟩ b_law_who (defBody s_law_who):=
  (.cons (.ret (.bin .int (.gc (.call (.cons .v (.cons .v (.cons .v (.cons (.idx (.gc (.lst (.cons .int (.cons .int (.cons .int (.cons .int (.cons .int (.cons .int .nil)))))))) (.gc (.call (.cons .v (.cons .v (.cons (.bin .v .int) (.cons .int .nil))))))) .nil))))))))
  .nil)
abbrev s_law_pick:Stmt:=top 26
theorem sc_law_pick:FnScope ["_law_script","_law_k","_law_j","_law_names"] ["_law_script","_law_k","_law_j","_law_names"] (defScope s_law_pick):=⟨rfl,rfl,rfl,by decide +kernel,rfl,by decide +kernel,by decide +kernel⟩
theorem ck_law_pick:CkSs ⟨["_law_script","_law_k","_law_j","_law_names"],defScope s_law_pick,names,glo⟩ b_law_pick (defBody s_law_pick):=
  (.cons (.ite (.or2 (.cmp (.bcall (.cons .v .nil)) .int) (.cmp (.gc (.call (.cons .v (.cons .v (.cons .v (.cons .int .nil)))))) .int)) (.cons (.ret (.bin .int (.gc (.call (.cons .v (.cons .v (.cons (.bin .v .int) (.cons .int .nil))))))))
  .nil) .nil)
  (.cons (.ret (.idx .v (.gc (.call (.cons .v (.cons .v (.cons (.bin .v .int) (.cons (.bcall (.cons .v .nil)) .nil))))))))
  .nil))
abbrev s_law_vein:Stmt:=top 27
theorem sc_law_vein:FnScope ["_law_script","_law_k","_law_size_here"] ["_law_script","_law_k","_law_size_here"] (defScope s_law_vein):=⟨rfl,rfl,rfl,by decide +kernel,rfl,by decide +kernel,by decide +kernel⟩
theorem ck_law_vein:CkSs ⟨["_law_script","_law_k","_law_size_here"],defScope s_law_vein,names,glo⟩ b_law_vein (defBody s_law_vein):=
  (.cons (.ret (.tup (.cons .str (.cons (.gc (.call (.cons .v (.cons .v (.cons .int (.cons (.idx .v .int) .nil)))))) (.cons (.gc (.call (.cons .v (.cons .v (.cons .int (.cons .v .nil)))))) .nil)))))
  .nil)
abbrev s_law_claim_fact:Stmt:=top 28
theorem sc_law_claim_fact:FnScope ["_law_script","_law_k","_law_way","_law_size_here","_law_names","_law_claim","_law_who_here","_law_side","_law_line"] ["_law_script","_law_k","_law_way","_law_size_here","_law_names"] (defScope s_law_claim_fact):=⟨rfl,rfl,rfl,by decide +kernel,rfl,by decide +kernel,by decide +kernel⟩
theorem ck_law_claim_fact:CkSs ⟨["_law_script","_law_k","_law_way","_law_size_here","_law_names","_law_claim","_law_who_here","_law_side","_law_line"],defScope s_law_claim_fact,names,glo⟩ b_law_claim_fact (defBody s_law_claim_fact):=
  (.cons (.st (.gc (.call (.cons .v (.cons .v (.cons .int (.cons .v .nil)))))))
  (.cons (.st (.gc (.call (.cons .v (.cons .v (.cons .int .nil))))))
  (.cons (.st (.gc (.call (.cons .v (.cons .v (.cons .int (.cons .int .nil)))))))
  (.cons (.st (.bin .int (.gc (.call (.cons .v (.cons .v (.cons .int (.cons (.bcall (.cons .int (.cons (.idx .v .v) .nil))) .nil))))))))
  (.cons (.ite (.cmp .v .int) (.cons (.ret (.tup (.cons .str (.cons .v .nil))))
  .nil) .nil)
  (.cons (.ret (.idx (.gc (.lst (.cons (.tup (.cons .str (.cons .v (.cons .v .nil)))) (.cons (.tup (.cons .str (.cons .v (.cons .v (.cons .v (.cons .v .nil)))))) (.cons (.tup (.cons .str (.cons .v .nil))) .nil))))) (.bin (.bin .v .int) .int)))
  .nil))))))
abbrev s_law_fact:Stmt:=top 29
theorem sc_law_fact:FnScope ["_law_script","_law_k","_law_size_here","_law_plan","_law_way","_law_veins","_law_names","_law_floor"] ["_law_script","_law_k","_law_size_here","_law_plan"] (defScope s_law_fact):=⟨rfl,rfl,rfl,by decide +kernel,rfl,by decide +kernel,by decide +kernel⟩
theorem ck_law_fact:CkSs ⟨["_law_script","_law_k","_law_size_here","_law_plan","_law_way","_law_veins","_law_names","_law_floor"],defScope s_law_fact,names,glo⟩ b_law_fact (defBody s_law_fact):=
  (.cons (.st (.gc (.call (.cons .v (.cons .v (.cons .int (.cons .int .nil)))))))
  (.cons (.setC rfl (.inl rfl) (.gc (.compIf (N:=["_law_day","_law_fact_here"]) (.seq .v) (.tup (.cons rfl (.inl rfl) (.cons rfl (.inl rfl) .nil))) (.cmp (.idx .v .int) .str) .v)) ⟨_,_,_,_,rfl⟩ (fun env _=>swaps_or _ _ _ _ _ _ _ env))
  (.cons (.setC rfl (.inl rfl) (.gc (.compIf (N:=["_law_day","_law_fact_here"]) (.seq .v) (.tup (.cons rfl (.inl rfl) (.cons rfl (.inl rfl) .nil))) (.cmp (.idx .v .int) (.tup (.cons .str (.cons .str .nil)))) .v)) ⟨_,_,_,_,rfl⟩ (fun env _=>swaps_or _ _ _ _ _ _ _ env))
  (.cons (.ite (.or2 (.cmp .v .int) (.and2 (.cmp .v .int) (.cmp (.bcall (.cons .v .nil)) .int))) (.cons (.ret (.call (.cons .v (.cons .v (.cons .v .nil)))))
  .nil) .nil)
  (.cons (.ite (.and2 (.cmp .v .int) (.cmp (.idx .v .int) .int)) (.cons (.st (.bin .int (.gc (.call (.cons .v (.cons .v (.cons .int (.cons (.idx .v .int) .nil))))))))
  (.cons (.ret (.tup (.cons .str (.cons (.gc (.call (.cons .v (.cons .v (.cons .int (.cons .v .nil)))))) (.cons (.gc (.call (.cons .v (.cons .v (.cons .int (.cons .v .nil)))))) (.cons .v .nil))))))
  .nil)) .nil)
  (.cons (.ite (.or2 (.cmp .v .int) (.and2 (.cmp .v .int) (.cmp (.bcall (.cons .v .nil)) .int))) (.cons (.ret (.bin (.tup (.cons .str (.cons (.gc (.call (.cons .v (.cons .v (.cons .int .nil))))) .nil))) (.gc (.call (.cons .v (.cons .v (.cons .int (.cons (.idx .v .int) (.cons (.idx .v .int) .nil)))))))))
  .nil) .nil)
  (.cons (.ret (.call (.cons .v (.cons .v (.cons (.bin .v .int) (.cons .v (.cons .v .nil)))))))
  .nil)))))))
abbrev s_law_dig:Stmt:=top 30
theorem sc_law_dig:FnScope ["_law_script","_law_k","_law_size_here","_law_mouth","_law_spot","_law_worth"] ["_law_script","_law_k","_law_size_here"] (defScope s_law_dig):=⟨rfl,rfl,rfl,by decide +kernel,rfl,by decide +kernel,by decide +kernel⟩
theorem ck_law_dig:CkSs ⟨["_law_script","_law_k","_law_size_here","_law_mouth","_law_spot","_law_worth"],defScope s_law_dig,names,glo⟩ b_law_dig (defBody s_law_dig):=
  (.cons (.st (.gc (.sli (.gc (.call (.cons .v (.cons .v (.cons .int (.cons (.idx .v .int) (.cons (.idx .v .int) .nil))))))) .none (.some .int))))
  (.cons (.st (.bin (.gc (.sli (.gc (.call (.cons .v (.cons .v (.cons .int (.cons (.idx .v .int) (.cons (.idx .v .int) .nil))))))) (.some .int) .none)) (.tup (.cons (.gc (.call (.cons .v (.cons .v (.cons .int (.cons (.bin (.idx .v .int) .int) .nil)))))) .nil))))
  (.cons (.st (.bin .int (.gc (.call (.cons .v (.cons .v (.cons .int (.cons (.idx (.gc (.lst (.cons .int (.cons .int (.cons (.bin .int .int) .nil))))) (.gc (.call (.cons .v (.cons .v (.cons .int (.cons .int .nil))))))) .nil))))))))
  (.cons (.ret (.bin (.bin (.bin (.tup (.cons .str (.cons (.gc (.call (.cons .v (.cons .v (.cons .int .nil))))) .nil))) .v) .v) (.tup (.cons .v .nil))))
  .nil))))
abbrev s_law_pay:Stmt:=top 31
theorem sc_law_pay:FnScope ["_law_script","_law_k","_law_giver","_law_taker"] ["_law_script","_law_k"] (defScope s_law_pay):=⟨rfl,rfl,rfl,by decide +kernel,rfl,by decide +kernel,by decide +kernel⟩
theorem ck_law_pay:CkSs ⟨["_law_script","_law_k","_law_giver","_law_taker"],defScope s_law_pay,names,glo⟩ b_law_pay (defBody s_law_pay):=
  (.cons (.st (.gc (.call (.cons .v (.cons .v (.cons .int .nil))))))
  (.cons (.st (.gc (.call (.cons .v (.cons .v (.cons .int .nil))))))
  (.cons (.ite (.cmp .v .v) (.cons (.st (.bin (.bin .v .int) .int))
  .nil) .nil)
  (.cons (.ret (.tup (.cons .str (.cons .v (.cons .v (.cons (.bin .int (.gc (.call (.cons .v (.cons .v (.cons .int (.cons (.idx (.gc (.lst (.cons .int (.cons (.bin .int .int) .nil)))) (.gc (.call (.cons .v (.cons .v (.cons .int (.cons .int .nil))))))) .nil))))))) .nil))))))
  .nil))))
abbrev s_law_num:Stmt:=top 32
theorem sc_law_num:FnScope ["_law_thing_here","_law_low","_law_high"] ["_law_thing_here","_law_low","_law_high"] (defScope s_law_num):=⟨rfl,rfl,rfl,by decide +kernel,rfl,by decide +kernel,by decide +kernel⟩
theorem ck_law_num:CkSs ⟨["_law_thing_here","_law_low","_law_high"],defScope s_law_num,names,glo⟩ b_law_num (defBody s_law_num):=
  (.cons (.ret (.andN (.isi1 .v) (.and2 (.not (.isi1 .v)) (.cmp2 .v .v .v (by with_unfolding_all rfl)))))
  .nil)
abbrev s_law_bounds:Stmt:=top 33
theorem sc_law_bounds:FnScope ["_law_size_here","_law_word","_law_day","_law_folk","_law_coins","_law_x","_law_y","_law_rows"] ["_law_size_here","_law_word"] (defScope s_law_bounds):=⟨rfl,rfl,rfl,by decide +kernel,rfl,by decide +kernel,by decide +kernel⟩
theorem ck_law_bounds:CkSs ⟨["_law_size_here","_law_word","_law_day","_law_folk","_law_coins","_law_x","_law_y","_law_rows"],defScope s_law_bounds,names,glo⟩ b_law_bounds (defBody s_law_bounds):=
  (.cons (.st (.tup (.cons .int (.cons .int .nil))))
  (.cons (.st (.tup (.cons .int (.cons .int .nil))))
  (.cons (.st (.tup (.cons .int (.cons (.bin .int .int) .nil))))
  (.cons (.st (.tup (.cons .int (.cons (.bin (.idx .v .int) .int) .nil))))
  (.cons (.st (.tup (.cons .int (.cons (.bin (.idx .v .int) .int) .nil))))
  (.cons (.st (.dic (.cons .str (.lst (.cons .v (.cons .v (.cons (.tup (.cons .int (.cons (.idx .v .int) .nil))) .nil)))) (.cons .str (.lst (.cons .v (.cons .v (.cons .v (.cons .v (.cons .v .nil)))))) (.cons .str (.lst (.cons .v .nil)) .nil))) (by decide)))
  (.cons (.dset .v .str (.lst (.cons .v (.cons .v .nil))) (fun _=>rfl))
  (.cons (.dset .v .str (.lst (.cons .v (.cons (.tup (.cons .int (.cons .int .nil))) (.cons (.tup (.cons .int (.cons .int .nil))) (.cons .v .nil))))) (fun _=>rfl))
  (.cons (.dset .v .str (.lst (.cons .v .nil)) (fun _=>rfl))
  (.cons (.dset .v .str (.lst (.cons .v (.cons .v (.cons .v (.cons .v (.cons .v (.cons (.tup (.cons .int (.cons (.idx .v .int) .nil))) (.cons .v .nil)))))))) (fun _=>rfl))
  (.cons (.dset .v .str (.lst (.cons .v (.cons .v (.cons .v .nil)))) (fun _=>rfl))
  (.cons (.ret (.dgt .v .v (fun _=>rfl) rfl (fun _=>rfl)))
  .nil))))))))))))
abbrev s_law_sound_vein:Stmt:=top 34
theorem sc_law_sound_vein:FnScope ["_law_size_here","_law_fact_here","_law_k","_law_cell"] ["_law_size_here","_law_fact_here"] (defScope s_law_sound_vein):=⟨rfl,rfl,rfl,by decide +kernel,rfl,by decide +kernel,by decide +kernel⟩
theorem ck_law_sound_vein:CkSs ⟨["_law_size_here","_law_fact_here","_law_k","_law_cell"],defScope s_law_sound_vein,names,glo⟩ b_law_sound_vein (defBody s_law_sound_vein):=
  (.cons (.ite (.orN (.cmp (.bcall (.cons .v .nil)) .int) (.or2 (.not (.isi1 (.idx .v .int))) (.not (.isi1 (.idx .v .int))))) (.cons (.ret .bl)
  .nil) .nil)
  (.cons (.ite (.or2 (.cmp (.bcall (.cons (.idx .v .int) .nil)) (.idx .v .int)) (.not (.bcall (.cons (.gc (.comp (N:=["_law_step"]) (.seq (.idx .v .int)) (.var rfl (.inl rfl)) (.gc (.call (.cons .v (.cons .int (.cons .int .nil))))))) .nil)))) (.cons (.ret .bl)
  .nil) .nil)
  (.cons (.ite (.not (.cmp2 .int (.bcall (.cons (.idx .v .int) .nil)) .int (by with_unfolding_all rfl))) (.cons (.ret .bl)
  .nil) .nil)
  (.cons (.forr (.var rfl (.inl rfl)) (.rng1 rfl (.bcall (.cons (.idx .v .int) .nil))) (fun _ _=>rfl) (.cons (.st (.idx (.idx .v .int) .v))
  (.cons (.ite (.orN (.not (.isi1 .v)) (.or2 (.cmp (.bcall (.cons .v .nil)) .int) (.cmp .v (.gc (.sli (.idx .v .int) .none (.some .v)))))) (.cons (.ret .bl)
  .nil) .nil)
  (.cons (.ite (.or2 (.not (.gc (.call (.cons (.idx .v .int) (.cons .int (.cons (.bin (.idx .v .int) .int) .nil)))))) (.not (.gc (.call (.cons (.idx .v .int) (.cons .int (.cons (.bin (.idx .v .int) .int) .nil))))))) (.cons (.ret .bl)
  .nil) .nil)
  .nil))))
  (.cons (.ret .bl)
  .nil)))))
abbrev s_law_sound:Stmt:=top 35
theorem sc_law_sound:FnScope ["_law_size_here","_law_fact_here","_law_bounds_here","_law_k"] ["_law_size_here","_law_fact_here"] (defScope s_law_sound):=⟨rfl,rfl,rfl,by decide +kernel,rfl,by decide +kernel,by decide +kernel⟩
theorem ck_law_sound:CkSs ⟨["_law_size_here","_law_fact_here","_law_bounds_here","_law_k"],defScope s_law_sound,names,glo⟩ b_law_sound (defBody s_law_sound):=
  (.cons (.ite (.cmp (.idx .v .int) .str) (.cons (.ret (.call (.cons .v (.cons .v .nil))))
  .nil) .nil)
  (.cons (.st (.gc (.call (.cons .v (.cons (.idx .v .int) .nil)))))
  (.cons (.ite (.or2 (.cmp .v .non) (.cmp (.bcall (.cons .v .nil)) (.bin (.bcall (.cons .v .nil)) .int))) (.cons (.ret .bl)
  .nil) .nil)
  (.cons (.forr (.var rfl (.inl rfl)) (.rng1 rfl (.bcall (.cons .v .nil))) (fun _ _=>rfl) (.cons (.ite (.not (.gc (.call (.cons (.idx .v (.bin .v .int)) (.cons (.idx (.idx .v .v) .int) (.cons (.idx (.idx .v .v) .int) .nil)))))) (.cons (.ret .bl)
  .nil) .nil)
  .nil))
  (.cons (.ite (.cmp (.idx .v .int) .str) (.cons (.ret (.and2 (.cmp (.idx .v .int) (.idx .v .int)) (.cmp (.idx .v .int) (.idx .v .int))))
  .nil) .nil)
  (.cons (.ret (.or2 (.cmp (.idx .v .int) .str) (.cmp (.idx .v .int) (.idx .v .int))))
  .nil))))))
abbrev s_law_some_fact:Stmt:=top 36
theorem sc_law_some_fact:FnScope ["_law_script","_law_k","_law_size_here","_law_way"] ["_law_script","_law_k","_law_size_here"] (defScope s_law_some_fact):=⟨rfl,rfl,rfl,by decide +kernel,rfl,by decide +kernel,by decide +kernel⟩
theorem ck_law_some_fact:CkSs ⟨["_law_script","_law_k","_law_size_here","_law_way"],defScope s_law_some_fact,names,glo⟩ b_law_some_fact (defBody s_law_some_fact):=
  (.cons (.st (.gc (.call (.cons .v (.cons .v (.cons .int (.cons .int .nil)))))))
  (.cons (.ite (.cmp .v .int) (.cons (.ret (.call (.cons .v (.cons .v (.cons .v .nil)))))
  .nil) .nil)
  (.cons (.ite (.cmp .v .int) (.cons (.ret (.call (.cons .v (.cons .v .nil))))
  .nil) .nil)
  (.cons (.ret (.call (.cons .v (.cons .v (.cons .v (.cons (.gc (.lst (.cons (.tup (.cons .int (.cons (.tup (.cons .str .nil)) .nil))) (.cons (.tup (.cons (.bin .int (.gc (.call (.cons .v (.cons .v (.cons .int (.cons .int .nil))))))) (.cons (.tup (.cons .str .nil)) .nil))) .nil)))) .nil))))))
  .nil))))
abbrev s_law_thing:Stmt:=top 37
theorem sc_law_thing:FnScope ["_law_script","_law_k","_law_j","_law_things"] ["_law_script","_law_k","_law_j"] (defScope s_law_thing):=⟨rfl,rfl,rfl,by decide +kernel,rfl,by decide +kernel,by decide +kernel⟩
theorem ck_law_thing:CkSs ⟨["_law_script","_law_k","_law_j","_law_things"],defScope s_law_thing,names,glo⟩ b_law_thing (defBody s_law_thing):=
  (.cons (.st (.gc (.lst (.cons .str (.cons .str (.cons .str (.cons (.tup .nil) (.cons (.tup (.cons .int .nil)) (.cons (.tup (.cons .int (.cons .int .nil))) (.cons (.tup (.cons (.tup (.cons .int (.cons .int .nil))) .nil)) (.cons (.tup (.cons (.tup (.cons .int (.cons .int .nil))) (.cons .int .nil))) (.cons .int (.cons .int (.cons .int (.cons (.neg .int) .nil)))))))))))))))
  (.cons (.ret (.idx .v (.gc (.call (.cons .v (.cons .v (.cons .v (.cons (.bcall (.cons .v .nil)) .nil))))))))
  .nil))
abbrev s_law_vein_bent:Stmt:=top 38
theorem sc_law_vein_bent:FnScope ["_law_script","_law_k","_law_way","_law_fact_here","_law_steps_here","_law_outs_here"] ["_law_script","_law_k","_law_way","_law_fact_here"] (defScope s_law_vein_bent):=⟨rfl,rfl,rfl,by decide +kernel,rfl,by decide +kernel,by decide +kernel⟩
theorem ck_law_vein_bent:CkSs ⟨["_law_script","_law_k","_law_way","_law_fact_here","_law_steps_here","_law_outs_here"],defScope s_law_vein_bent,names,glo⟩ b_law_vein_bent (defBody s_law_vein_bent):=
  (.cons (.st (.idx .v .int))
  (.cons (.st (.idx .v .int))
  (.cons (.ite (.cmp .v .int) (.cons (.st (.cat .v (.tup (.cons .int .nil))))
  .nil) .nil)
  (.cons (.ite (.cmp .v .int) (.cons (.st (.gc (.sli .v (.some .int) .none)))
  .nil) .nil)
  (.cons (.ite (.cmp .v .int) (.cons (.st (.cat .v (.tup (.cons (.gc (.call (.cons .v (.cons .v (.cons .int (.cons .int .nil)))))) .nil))))
  .nil) .nil)
  (.cons (.ite (.cmp .v .int) (.cons (.st (.tup .nil))
  .nil) .nil)
  (.cons (.ret (.tup (.cons .str (.cons .v (.cons .v .nil)))))
  .nil)))))))
abbrev s_law_bent_fact:Stmt:=top 39
theorem sc_law_bent_fact:FnScope ["_law_script","_law_k","_law_fact_here","_law_way","_law_thing_here","_law_at","_law_words"] ["_law_script","_law_k","_law_fact_here"] (defScope s_law_bent_fact):=⟨rfl,rfl,rfl,by decide +kernel,rfl,by decide +kernel,by decide +kernel⟩
theorem ck_law_bent_fact:CkSs ⟨["_law_script","_law_k","_law_fact_here","_law_way","_law_thing_here","_law_at","_law_words"],defScope s_law_bent_fact,names,glo⟩ b_law_bent_fact (defBody s_law_bent_fact):=
  (.cons (.st (.gc (.call (.cons .v (.cons .v (.cons .int (.cons .int .nil)))))))
  (.cons (.st (.gc (.call (.cons .v (.cons .v (.cons .int .nil))))))
  (.cons (.ite (.cmp .v .int) (.cons (.st (.bin .int (.gc (.call (.cons .v (.cons .v (.cons .int (.cons (.bcall (.cons .v .nil)) .nil))))))))
  (.cons (.ret (.bin (.bin (.gc (.sli .v .none (.some .v))) (.tup (.cons .v .nil))) (.gc (.sli .v (.some .v) .none))))
  .nil)) .nil)
  (.cons (.st (.bin .int (.gc (.call (.cons .v (.cons .v (.cons .int (.cons (.bin (.bcall (.cons .v .nil)) .int) .nil))))))))
  (.cons (.ite (.cmp .v .int) (.cons (.ret (.bin (.gc (.sli .v .none (.some .v))) (.gc (.sli .v (.some (.bin .v .int)) .none))))
  .nil) .nil)
  (.cons (.ite (.cmp .v .int) (.cons (.ret (.bin (.bin (.gc (.sli .v .none (.some .v))) (.tup (.cons .v .nil))) (.gc (.sli .v (.some (.bin .v .int)) .none))))
  .nil) .nil)
  (.cons (.st (.gc (.lst (.cons .str (.cons .str (.cons .str (.cons .str (.cons .str (.cons .str (.cons .str (.cons .str (.cons .str (.cons .str (.cons .str (.cons .str (.cons .str .nil))))))))))))))))
  (.cons (.ite (.cmp .v .int) (.cons (.ret (.bin (.tup (.cons (.idx .v (.gc (.call (.cons .v (.cons .v (.cons .int (.cons .int .nil))))))) .nil)) (.gc (.sli .v (.some .int) .none))))
  .nil) .nil)
  (.cons (.ite (.cmp (.idx .v .int) .str) (.cons (.ret (.call (.cons .v (.cons .v (.cons .v (.cons .v .nil))))))
  .nil) .nil)
  (.cons (.ret (.bin (.gc (.sli .v .none (.some .int))) (.bcall (.cons (.gc (.comp (N:=["_law_at"]) (.rng1 rfl (.gc (.call (.cons .v (.cons .v (.cons .int (.cons .int .nil))))))) (.var rfl (.inl rfl)) .int)) .nil))))
  .nil))))))))))
abbrev s_law:Stmt:=top 40
theorem sc_law:FnScope ["_law_script","_law_size_here","_law_fact_here","_law_count","_law_outs_here"] ["_law_script"] (defScope s_law):=⟨rfl,rfl,rfl,by decide +kernel,rfl,by decide +kernel,by decide +kernel⟩
theorem ck_law:CkSs ⟨["_law_script","_law_size_here","_law_fact_here","_law_count","_law_outs_here"],defScope s_law,names,glo⟩ b_law (defBody s_law):=
  (.cons (.set rfl (.inr rfl) (.gc (.call (.cons .v (.cons .int .nil)))) (fun _=>rfl))
  (.cons (.st (.gc (.call (.cons .v (.cons .int (.cons (.var rfl (.inr (.inl rfl)) rfl rfl) .nil))))))
  (.cons (.ite (.cmp (.gc (.call (.cons .v (.cons .int (.cons .int (.cons .int .nil)))))) .int) (.cons (.st (.bcall (.cons .int (.cons (.bin (.idx (.var rfl (.inr (.inl rfl)) rfl rfl) .int) (.idx (.var rfl (.inr (.inl rfl)) rfl rfl) .int)) .nil))))
  (.cons (.setC rfl (.inl rfl) (.gc (.comp (N:=["_law_k","_law_size_here"]) (.rng1 rfl (.bin .int (.gc (.call (.cons .v (.cons .int (.cons .int (.cons .v .nil)))))))) (.var rfl (.inl rfl)) (.tup (.cons (.bin .v (.idx (.var rfl (.inr (.inl rfl)) rfl rfl) .int)) (.cons (.bin .v (.idx (.var rfl (.inr (.inl rfl)) rfl rfl) .int)) .nil))))) ⟨_,_,_,_,rfl⟩ (fun env _=>swaps_or _ _ _ _ _ _ _ env))
  (.cons (.st (.tup (.cons .str (.cons (.gc (.call (.cons .v (.cons .int (.cons .int (.cons (.idx (.var rfl (.inr (.inl rfl)) rfl rfl) .int) .nil)))))) (.cons (.bcall (.cons .v .nil)) .nil)))))
  .nil))) .nil)
  (.cons (.ite (.cmp (.gc (.call (.cons .v (.cons .int (.cons .int (.cons .int .nil)))))) .int) (.cons (.st (.gc (.call (.cons .v (.cons .int (.cons .v .nil))))))
  .nil) .nil)
  (.cons (.ret (.call (.cons (.gc (.call (.cons (.var rfl (.inr (.inl rfl)) rfl rfl) (.cons .v .nil)))) (.cons (.gc (.call (.cons (.var rfl (.inr (.inl rfl)) rfl rfl) (.cons .v .nil)))) .nil))))
  .nil)))))
theorem ar1{P:List Value→Prop}(h:∀ a,P [a]):∀ us:List Value,us.length=1→P us|[a],_=>h a
theorem ar2{P:List Value→Prop}(h:∀ a b,P [a,b]):∀ us:List Value,us.length=2→P us|[a,b],_=>h a b
theorem ar3{P:List Value→Prop}(h:∀ a b c,P [a,b,c]):∀ us:List Value,us.length=3→P us|[a,b,c],_=>h a b c
theorem ar4{P:List Value→Prop}(h:∀ a b c d,P [a,b,c,d]):∀ us:List Value,us.length=4→P us|[a,b,c,d],_=>h a b c d
theorem ar5{P:List Value→Prop}(h:∀ a b c d e,P [a,b,c,d,e]):∀ us:List Value,us.length=5→P us|[a,b,c,d,e],_=>h a b c d e
theorem tb{P:Nat→Str→Prop}{n:Nat}{x:Str}{xs:List Str}(h:P n x)(t:∀ f y,xs[f]?=some y→P (n+1+f) y):∀ f y,(x::xs)[f]?=some y→P (n+f) y:=fun f y e=>by
 cases f with
 |zero=>cases e; exact h
 |succ f=>have:=t f y e; rwa [Nat.add_assoc,Nat.add_comm 1 f]at this
theorem tn{P:Nat→Str→Prop}{n:Nat}:∀ f y,([]:List Str)[f]?=some y→P (n+f) y:=fun f y e=>by cases e
theorem all_mk{l:PySem.W.OpenLaw}{w:World}{K:PySem.W.Frag}{h:Heap}{mg:Str→Option Value}{fa f0 f1 f2 f3 f4 f5 f6 f7 f8 f9 f10 f11 f12 f13 f14 f15 f16 f17 f18 f19 f20 f21 f22 f23 f24 f25 f26 f27 f28 f29 f30:Addr}{d0 d1 d2 d3 d4 d5 d6 d7 d8 d9 d10 d11 d12 d13 d14 d15 d16 d17 d18 d19 d20 d21 d22 d23 d24 d25 d26 d27 d28 d29 d30:FuncData}{gt0 gt1 gt2 gt3 gt4 gt5 gt6 gt7 gt8 gt9 gt10 gt11 gt12 gt13 gt14 gt15 gt16 gt17 gt18 gt19 gt20 gt21 gt22 gt23 gt24 gt25 gt26 gt27 gt28 gt29 gt30 gt31 gt32 gt33 gt34 gt35 gt36 gt37 gt38 gt39 gt40 gt41 gt42 gt43 gt44 gt45 gt46:Tok}
  {gA0:Addr}{gN0:Nat}
  {ga0 ga1 ga2 ga3 ga4 ga5 ga6 ga7 ga8 ga9 ga10 ga11 ga12 ga13:Addr}
  (X:K.In h) (G:h.Ns mainGlobals mg) (hfa:mg "law" = some (.ref fa))
  (h0:FnK K "bounds" s_bounds f0 d0)
  (h1:FnK K "fits" s_fits f1 d1)
  (h2:FnK K "all_fit" s_all_fit f2 d2)
  (h3:FnK K "is_cell" s_is_cell f3 d3)
  (h4:FnK K "good_steps" s_good_steps f4 d4)
  (h5:FnK K "good_outcrops" s_good_outcrops f5 d5)
  (h6:FnK K "sound_vein" s_sound_vein f6 d6)
  (h7:FnK K "numbers_agree" s_numbers_agree f7 d7)
  (h8:FnK K "sound" s_sound f8 d8)
  (h9:FnK K "_law_draw" s_law_draw f9 d9)
  (h10:FnK K "_law_same" s_law_same f10 d10)
  (h11:FnK K "_law_size" s_law_size f11 d11)
  (h12:FnK K "_law_rect" s_law_rect f12 d12)
  (h13:FnK K "_law_steps" s_law_steps f13 d13)
  (h14:FnK K "_law_outs" s_law_outs f14 d14)
  (h15:FnK K "_law_who" s_law_who f15 d15)
  (h16:FnK K "_law_pick" s_law_pick f16 d16)
  (h17:FnK K "_law_vein" s_law_vein f17 d17)
  (h18:FnK K "_law_claim_fact" s_law_claim_fact f18 d18)
  (h19:FnK K "_law_fact" s_law_fact f19 d19)
  (h20:FnK K "_law_dig" s_law_dig f20 d20)
  (h21:FnK K "_law_pay" s_law_pay f21 d21)
  (h22:FnK K "_law_num" s_law_num f22 d22)
  (h23:FnK K "_law_bounds" s_law_bounds f23 d23)
  (h24:FnK K "_law_sound_vein" s_law_sound_vein f24 d24)
  (h25:FnK K "_law_sound" s_law_sound f25 d25)
  (h26:FnK K "_law_some_fact" s_law_some_fact f26 d26)
  (h27:FnK K "_law_thing" s_law_thing f27 d27)
  (h28:FnK K "_law_vein_bent" s_law_vein_bent f28 d28)
  (h29:FnK K "_law_bent_fact" s_law_bent_fact f29 d29)
  (h30:FnK K "law" s_law f30 d30)
  (gl0:PySem.W.nsIn K mainGlobals "COINS" = some (some (.ref ga0)))
  (go0:TupK K ga0 #[(.int 1 gt0),(.int 1000000 gt1)])
  (gl1:PySem.W.nsIn K mainGlobals "DAYS" = some (some (.ref ga1)))
  (go1:TupK K ga1 #[(.int 1 gt2),(.int 400 gt3)])
  (gl2:PySem.W.nsIn K mainGlobals "FOLK" = some (some (.ref ga2)))
  (go2:TupK K ga2 #[(.int 1 gt4),(.int 40 gt5)])
  (gl3:PySem.W.nsIn K mainGlobals "LINES" = some (some (.ref ga3)))
  (go3:TupK K ga3 #[(.int 1 gt6),(.int 23 gt7)])
  (gl4:PySem.W.nsIn K mainGlobals "MOST_COLUMNS" = some (some (.int 16 gt8)))
  (gl5:PySem.W.nsIn K mainGlobals "SIDES" = some (some (.ref ga4)))
  (go4:TupK K ga4 #[(.int 0 gt9),(.int 1 gt10)])
  (gl6:PySem.W.nsIn K mainGlobals "STEPS" = some (some (.ref ga5)))
  (go5:TupK K ga5 #[(.int 0 gt11),(.int 4 gt12)])
  (gl7:PySem.W.nsIn K mainGlobals "ASKS" = some (some (.ref gA0)))
  (gO0:K.lookup gA0=some { cls:=.type "dict",data:=.dict #[⟨PyData.keyHash w.params "join",.str "join" gt13,(.ref ga6)⟩,⟨PyData.keyHash w.params "stake",.str "stake" gt17,(.ref ga7)⟩,⟨PyData.keyHash w.params "work",.str "work" gt23,(.ref ga8)⟩,⟨PyData.keyHash w.params "sell",.str "sell" gt25,(.ref ga9)⟩,⟨PyData.keyHash w.params "part",.str "part" gt28,(.ref ga10)⟩,⟨PyData.keyHash w.params "give",.str "give" gt33,(.ref ga11)⟩,⟨PyData.keyHash w.params "dig",.str "dig" gt35,(.ref ga12)⟩,⟨PyData.keyHash w.params "pay",.str "pay" gt43,(.ref ga13)⟩] gN0 })
  (go6:TupK K ga6 #[(.str "day" gt14),(.str "day" gt15),(.str "below" gt16)])
  (go7:TupK K ga7 #[(.str "folk" gt18),(.str "x" gt19),(.str "y" gt20),(.str "x" gt21),(.str "y" gt22)])
  (go8:TupK K ga8 #[(.str "day" gt24)])
  (go9:TupK K ga9 #[(.str "day" gt26),(.str "folk" gt27)])
  (go10:TupK K ga10 #[(.str "day" gt29),(.str "side" gt30),(.str "line" gt31),(.str "folk" gt32)])
  (go11:TupK K ga11 #[(.str "day" gt34)])
  (go12:TupK K ga12 #[(.str "folk" gt36),(.str "x" gt37),(.str "y" gt38),(.str "x" gt39),(.str "y" gt40),(.str "floor" gt41),(.str "coins" gt42)])
  (go13:TupK K ga13 #[(.str "folk" gt44),(.str "folk" gt45),(.str "coins" gt46)])
  (gm0:(gA0==sysModules)=false)
  (z:NoB K)
  : ∃ fd:FuncData,(∀ (s:Shared) (v:Value),BindsTo s fd ⟨[v],[]⟩ [("_law_script",v)])∧∀ base:Heap,K.In base→base.Ns mainGlobals mg→FnOk l.prog w K mg base CX0 20 fa fd ["_law_script"] (spLaw K):=by
 obtain⟨go0⟩:=go0
 obtain⟨go1⟩:=go1
 obtain⟨go2⟩:=go2
 obtain⟨go3⟩:=go3
 obtain⟨go4⟩:=go4
 obtain⟨go5⟩:=go5
 obtain⟨go6⟩:=go6
 obtain⟨go7⟩:=go7
 obtain⟨go8⟩:=go8
 obtain⟨go9⟩:=go9
 obtain⟨go10⟩:=go10
 obtain⟨go11⟩:=go11
 obtain⟨go12⟩:=go12
 obtain⟨go13⟩:=go13
 have Mg:Mo K mg glo w.params:=z.mo X G (fun x ks ds hm=>by
   simp only[glo,List.mem_cons,List.not_mem_nil,or_false,Prod.mk.injEq]at hm
   rcases hm with⟨rfl,rfl,rfl⟩
   ·exact⟨_,PySem.W.mg_of X G gl7,⟨[(.ref ga6),(.ref ga7),(.ref ga8),(.ref ga9),(.ref ga10),(.ref ga11),(.ref ga12),(.ref ga13)],[(.ref ga6),(.ref ga7),(.ref ga8),(.ref ga9),(.ref ga10),(.ref ga11),(.ref ga12),(.ref ga13)],#[⟨PyData.keyHash w.params "join",.str "join" gt13,(.ref ga6)⟩,⟨PyData.keyHash w.params "stake",.str "stake" gt17,(.ref ga7)⟩,⟨PyData.keyHash w.params "work",.str "work" gt23,(.ref ga8)⟩,⟨PyData.keyHash w.params "sell",.str "sell" gt25,(.ref ga9)⟩,⟨PyData.keyHash w.params "part",.str "part" gt28,(.ref ga10)⟩,⟨PyData.keyHash w.params "give",.str "give" gt33,(.ref ga11)⟩,⟨PyData.keyHash w.params "dig",.str "dig" gt35,(.ref ga12)⟩,⟨PyData.keyHash w.params "pay",.str "pay" gt43,(.ref ga13)⟩],gN0,gO0,(.cons (.cons (.cons (.cons (.cons (.cons (.cons (.cons .nil)))))))),(.cons (show RelV (.ref ga6) (.ref ga6) from rfl) (.cons (show RelV (.ref ga7) (.ref ga7) from rfl) (.cons (show RelV (.ref ga8) (.ref ga8) from rfl) (.cons (show RelV (.ref ga9) (.ref ga9) from rfl) (.cons (show RelV (.ref ga10) (.ref ga10) from rfl) (.cons (show RelV (.ref ga11) (.ref ga11) from rfl) (.cons (show RelV (.ref ga12) (.ref ga12) from rfl) (.cons (show RelV (.ref ga13) (.ref ga13) from rfl) .nil)))))))),fun m H=>(mkCons (mkTup (xs:=[(.str "day"),(.str "day"),(.str "below")]) (.inr ⟨_,_,_,go6,rfl,rfl,(by show 3≤sizeLine; decide),(.cons ⟨_,rfl⟩ (.cons ⟨_,rfl⟩ (.cons ⟨_,rfl⟩ .nil)))⟩) (mkCons (mkStr _) (mkCons (mkStr _) (mkCons (mkStr _) mkNil)))) (mkCons (mkTup (xs:=[(.str "folk"),(.str "x"),(.str "y"),(.str "x"),(.str "y")]) (.inr ⟨_,_,_,go7,rfl,rfl,(by show 5≤sizeLine; decide),(.cons ⟨_,rfl⟩ (.cons ⟨_,rfl⟩ (.cons ⟨_,rfl⟩ (.cons ⟨_,rfl⟩ (.cons ⟨_,rfl⟩ .nil)))))⟩) (mkCons (mkStr _) (mkCons (mkStr _) (mkCons (mkStr _) (mkCons (mkStr _) (mkCons (mkStr _) mkNil)))))) (mkCons (mkTup (xs:=[(.str "day")]) (.inr ⟨_,_,_,go8,rfl,rfl,(by show 1≤sizeLine; decide),(.cons ⟨_,rfl⟩ .nil)⟩) (mkCons (mkStr _) mkNil)) (mkCons (mkTup (xs:=[(.str "day"),(.str "folk")]) (.inr ⟨_,_,_,go9,rfl,rfl,(by show 2≤sizeLine; decide),(.cons ⟨_,rfl⟩ (.cons ⟨_,rfl⟩ .nil))⟩) (mkCons (mkStr _) (mkCons (mkStr _) mkNil))) (mkCons (mkTup (xs:=[(.str "day"),(.str "side"),(.str "line"),(.str "folk")]) (.inr ⟨_,_,_,go10,rfl,rfl,(by show 4≤sizeLine; decide),(.cons ⟨_,rfl⟩ (.cons ⟨_,rfl⟩ (.cons ⟨_,rfl⟩ (.cons ⟨_,rfl⟩ .nil))))⟩) (mkCons (mkStr _) (mkCons (mkStr _) (mkCons (mkStr _) (mkCons (mkStr _) mkNil))))) (mkCons (mkTup (xs:=[(.str "day")]) (.inr ⟨_,_,_,go11,rfl,rfl,(by show 1≤sizeLine; decide),(.cons ⟨_,rfl⟩ .nil)⟩) (mkCons (mkStr _) mkNil)) (mkCons (mkTup (xs:=[(.str "folk"),(.str "x"),(.str "y"),(.str "x"),(.str "y"),(.str "floor"),(.str "coins")]) (.inr ⟨_,_,_,go12,rfl,rfl,(by show 7≤sizeLine; decide),(.cons ⟨_,rfl⟩ (.cons ⟨_,rfl⟩ (.cons ⟨_,rfl⟩ (.cons ⟨_,rfl⟩ (.cons ⟨_,rfl⟩ (.cons ⟨_,rfl⟩ (.cons ⟨_,rfl⟩ .nil)))))))⟩) (mkCons (mkStr _) (mkCons (mkStr _) (mkCons (mkStr _) (mkCons (mkStr _) (mkCons (mkStr _) (mkCons (mkStr _) (mkCons (mkStr _) mkNil)))))))) (mkCons (mkTup (xs:=[(.str "folk"),(.str "folk"),(.str "coins")]) (.inr ⟨_,_,_,go13,rfl,rfl,(by show 3≤sizeLine; decide),(.cons ⟨_,rfl⟩ (.cons ⟨_,rfl⟩ (.cons ⟨_,rfl⟩ .nil)))⟩) (mkCons (mkStr _) (mkCons (mkStr _) (mkCons (mkStr _) mkNil)))) mkNil))))))))⟩,by decide +kernel,gm0⟩
  ) (fun x d hm=>by
   simp only[glo,List.mem_cons,List.not_mem_nil,or_false,Prod.mk.injEq]at hm
   rcases hm with⟨rfl,rfl⟩|⟨rfl,rfl⟩|⟨rfl,rfl⟩|⟨rfl,rfl⟩|⟨rfl,rfl⟩|⟨rfl,rfl⟩|⟨rfl,rfl⟩
   ·exact⟨_,(.ref ga0),PySem.W.mg_of X G gl0,rfl,fun m H=>(mkTup (xs:=[(.int 1),(.int 1000000)]) (.inr ⟨_,_,_,go0,rfl,rfl,(by show 2≤sizeLine; decide),(.cons ⟨_,rfl⟩ (.cons ⟨_,rfl⟩ .nil))⟩) (mkCons (mkInt _) (mkCons (mkInt _) mkNil)))⟩
   ·exact⟨_,(.ref ga1),PySem.W.mg_of X G gl1,rfl,fun m H=>(mkTup (xs:=[(.int 1),(.int 400)]) (.inr ⟨_,_,_,go1,rfl,rfl,(by show 2≤sizeLine; decide),(.cons ⟨_,rfl⟩ (.cons ⟨_,rfl⟩ .nil))⟩) (mkCons (mkInt _) (mkCons (mkInt _) mkNil)))⟩
   ·exact⟨_,(.ref ga2),PySem.W.mg_of X G gl2,rfl,fun m H=>(mkTup (xs:=[(.int 1),(.int 40)]) (.inr ⟨_,_,_,go2,rfl,rfl,(by show 2≤sizeLine; decide),(.cons ⟨_,rfl⟩ (.cons ⟨_,rfl⟩ .nil))⟩) (mkCons (mkInt _) (mkCons (mkInt _) mkNil)))⟩
   ·exact⟨_,(.ref ga3),PySem.W.mg_of X G gl3,rfl,fun m H=>(mkTup (xs:=[(.int 1),(.int 23)]) (.inr ⟨_,_,_,go3,rfl,rfl,(by show 2≤sizeLine; decide),(.cons ⟨_,rfl⟩ (.cons ⟨_,rfl⟩ .nil))⟩) (mkCons (mkInt _) (mkCons (mkInt _) mkNil)))⟩
   ·exact⟨_,(.int 16),PySem.W.mg_of X G gl4,⟨_,rfl⟩,fun m H=>(mkInt _)⟩
   ·exact⟨_,(.ref ga4),PySem.W.mg_of X G gl5,rfl,fun m H=>(mkTup (xs:=[(.int 0),(.int 1)]) (.inr ⟨_,_,_,go4,rfl,rfl,(by show 2≤sizeLine; decide),(.cons ⟨_,rfl⟩ (.cons ⟨_,rfl⟩ .nil))⟩) (mkCons (mkInt _) (mkCons (mkInt _) mkNil)))⟩
   ·exact⟨_,(.ref ga5),PySem.W.mg_of X G gl6,rfl,fun m H=>(mkTup (xs:=[(.int 0),(.int 4)]) (.inr ⟨_,_,_,go5,rfl,rfl,(by show 2≤sizeLine; decide),(.cons ⟨_,rfl⟩ (.cons ⟨_,rfl⟩ .nil))⟩) (mkCons (mkInt _) (mkCons (mkInt _) mkNil)))⟩
  )
 have T:∀ f x,names[f]?=some x→FText K mg fns names glo (0+f) x:=
  tb (h0.text X G f_bounds sc_bounds ck_bounds rfl rfl rfl fun _ _ _ _ _ _=>ar1 fun _=>rfl) (
  tb (h1.text X G f_fits sc_fits ck_fits rfl rfl rfl fun _ _ _ _ _ _=>ar2 fun _ _=>rfl) (
  tb (h2.text X G f_all_fit sc_all_fit ck_all_fit rfl rfl rfl fun _ _ _ _ _ _=>ar3 fun _ _ _=>rfl) (
  tb (h3.text X G f_is_cell sc_is_cell ck_is_cell rfl rfl rfl fun _ _ _ _ _ _=>ar2 fun _ _=>rfl) (
  tb (h4.text X G f_good_steps sc_good_steps ck_good_steps rfl rfl rfl fun _ _ _ _ _ _=>ar2 fun _ _=>rfl) (
  tb (h5.text X G f_good_outcrops sc_good_outcrops ck_good_outcrops rfl rfl rfl fun _ _ _ _ _ _=>ar2 fun _ _=>rfl) (
  tb (h6.text X G f_sound_vein sc_sound_vein ck_sound_vein rfl rfl rfl fun _ _ _ _ _ _=>ar2 fun _ _=>rfl) (
  tb (h7.text X G f_numbers_agree sc_numbers_agree ck_numbers_agree rfl rfl rfl fun _ _ _ _ _ _=>ar1 fun _=>rfl) (
  tb (h8.text X G f_sound sc_sound ck_sound rfl rfl rfl fun _ _ _ _ _ _=>ar2 fun _ _=>rfl) (
  tb (h9.text X G f_law_draw sc_law_draw ck_law_draw rfl rfl rfl fun _ _ _ _ _ _=>ar4 fun _ _ _ _=>rfl) (
  tb (h10.text X G f_law_same sc_law_same ck_law_same rfl rfl rfl fun _ _ _ _ _ _=>ar2 fun _ _=>rfl) (
  tb (h11.text X G f_law_size sc_law_size ck_law_size rfl rfl rfl fun _ _ _ _ _ _=>ar2 fun _ _=>rfl) (
  tb (h12.text X G f_law_rect sc_law_rect ck_law_rect rfl rfl rfl fun _ _ _ _ _ _=>ar5 fun _ _ _ _ _=>rfl) (
  tb (h13.text X G f_law_steps sc_law_steps ck_law_steps rfl rfl rfl fun _ _ _ _ _ _=>ar4 fun _ _ _ _=>rfl) (
  tb (h14.text X G f_law_outs sc_law_outs ck_law_outs rfl rfl rfl fun _ _ _ _ _ _=>ar4 fun _ _ _ _=>rfl) (
  tb (h15.text X G f_law_who sc_law_who ck_law_who rfl rfl rfl fun _ _ _ _ _ _=>ar3 fun _ _ _=>rfl) (
  tb (h16.text X G f_law_pick sc_law_pick ck_law_pick rfl rfl rfl fun _ _ _ _ _ _=>ar4 fun _ _ _ _=>rfl) (
  tb (h17.text X G f_law_vein sc_law_vein ck_law_vein rfl rfl rfl fun _ _ _ _ _ _=>ar3 fun _ _ _=>rfl) (
  tb (h18.text X G f_law_claim_fact sc_law_claim_fact ck_law_claim_fact rfl rfl rfl fun _ _ _ _ _ _=>ar5 fun _ _ _ _ _=>rfl) (
  tb (h19.text X G f_law_fact sc_law_fact ck_law_fact rfl rfl rfl fun _ _ _ _ _ _=>ar4 fun _ _ _ _=>rfl) (
  tb (h20.text X G f_law_dig sc_law_dig ck_law_dig rfl rfl rfl fun _ _ _ _ _ _=>ar3 fun _ _ _=>rfl) (
  tb (h21.text X G f_law_pay sc_law_pay ck_law_pay rfl rfl rfl fun _ _ _ _ _ _=>ar2 fun _ _=>rfl) (
  tb (h22.text X G f_law_num sc_law_num ck_law_num rfl rfl rfl fun _ _ _ _ _ _=>ar3 fun _ _ _=>rfl) (
  tb (h23.text X G f_law_bounds sc_law_bounds ck_law_bounds rfl rfl rfl fun _ _ _ _ _ _=>ar2 fun _ _=>rfl) (
  tb (h24.text X G f_law_sound_vein sc_law_sound_vein ck_law_sound_vein rfl rfl rfl fun _ _ _ _ _ _=>ar2 fun _ _=>rfl) (
  tb (h25.text X G f_law_sound sc_law_sound ck_law_sound rfl rfl rfl fun _ _ _ _ _ _=>ar2 fun _ _=>rfl) (
  tb (h26.text X G f_law_some_fact sc_law_some_fact ck_law_some_fact rfl rfl rfl fun _ _ _ _ _ _=>ar3 fun _ _ _=>rfl) (
  tb (h27.text X G f_law_thing sc_law_thing ck_law_thing rfl rfl rfl fun _ _ _ _ _ _=>ar3 fun _ _ _=>rfl) (
  tb (h28.text X G f_law_vein_bent sc_law_vein_bent ck_law_vein_bent rfl rfl rfl fun _ _ _ _ _ _=>ar4 fun _ _ _ _=>rfl) (
  tb (h29.text X G f_law_bent_fact sc_law_bent_fact ck_law_bent_fact rfl rfl rfl fun _ _ _ _ _ _=>ar3 fun _ _ _=>rfl) (
  tb (h30.text X G f_law sc_law ck_law rfl rfl rfl fun _ _ _ _ _ _=>ar1 fun _=>rfl) (
  tn)))))))))))))))))))))))))))))))
 have T:∀ f x,names[f]?=some x→FText K mg fns names glo f x:=fun f x h=>Nat.zero_add f▸T f x h
 obtain⟨a,l,c,k⟩:=h30
 have e:=hfa.symm.trans (PySem.W.mg_of X G a)
 cases e
 have F:=fun_mk (st:=s_law) l c k
 refine⟨_,fun s v=>.of_eq rfl,fun base _ _=>(fun_ok (n:=19) (f:=30) (F:=f_law) (tab_ok T Mg _) Mg rfl F sc_law ck_law rfl rfl).imp (law_sp K05.law_ok)⟩
end K05
namespace K05
open PySem L2
noncomputable def c0:List Str:=["_law_sound","_law_size_here","_law_fact_here","vein","_law_sound_vein","_law_bounds_here","_law_bounds","len","_law_k","range","_law_num","stake"]
noncomputable def c1:List Str:=["pay","_law_some_fact","_law_script","_law_way","_law_draw","_law_dig","_law_pay","_law_fact","_law_thing","_law_j","_law_things","3"]
noncomputable def c2:List Str:=["","work","_law_vein_bent","_law_steps_here","_law_outs_here","_law_bent_fact","_law_thing_here","_law_at","_law_words","Vein","veins","work "]
noncomputable def c3:List Str:=["give","join","sell","part","dig","tuple",".0","fast","law","_law_size","_law_count","min"]
noncomputable def c4:List Str:=["_law_steps","_law_same","sound","_law_mouth","_law_rect","_law_spot","_law_worth","_law_who","_law_giver","_law_taker","_law_low","_law_high"]
noncomputable def c5:List Str:=["isinstance","int","bool","_law_word","_law_day","_law_folk","_law_coins","_law_x","_law_y","_law_rows","get","all"]
noncomputable def c6:List Str:=["_law_step","_law_cell","_law_pick","_law_names","_law_vein","_law_outs","_law_claim_fact","_law_claim","_law_who_here","_law_side","_law_line","_law_plan"]
noncomputable def c7:List Str:=["_law_veins","_law_floor","_law_found","_law_due","list","_law_like","str","_law_wide","_law_tall","_law_deep","_law_sizes","sorted"]
noncomputable def c8:List Str:=["_law_first","_law_stride","_law_place","append","sound_vein","size","fact","good_steps","good_outcrops","numbers_agree","ASKS","all_fit"]
noncomputable def c9:List Str:=["__name__","law_dipright_k05_facts_by_their_shape","_law_many","_law_turn","_law_rest","_law_one","_law_two","fits","value","bound","asked","values"]
noncomputable def c10:List Str:=["known","bounds","kind","zip","is_cell","thing","x","y","steps","step","outcrops","MOST_COLUMNS"]
noncomputable def c11:List Str:=["set","STEPS","COINS","day","below","folk","side","line","floor","coins","DAYS","FOLK"]
noncomputable def c12:List Str:=["SIDES","LINES","dipright.facts","/claim/cut.py","__doc__","__package__","__loader__","__spec__","__annotations__","__builtins__","__file__","__cached__"]
noncomputable def Al:List (List Str):=[c0,c1,c2,c3,c4,c5,c6,c7,c8,c9,c10,c11,c12]
noncomputable def Af(i j:Nat):Str:=(Al.getD i []).getD j ⟨#[]⟩
noncomputable def b0:String:="dict"
noncomputable def b1:String:="__main__.__loader__#opaque"
noncomputable def b2:String:="tuple"
noncomputable def b3:String:="code"
noncomputable def b4:String:="function"
lay_quick Af b0 b1 b2 b3 b4
noncomputable def G(a:Nat→Nat→Str):Program:=by
 refine'(?f:(x:Program)→(Str.ofString "_law_sound" = a 0 0→Str.ofString "_law_size_here" = a 0 1→Str.ofString "_law_fact_here" = a 0 2→Str.ofString "vein" = a 0 3→Str.ofString "_law_sound_vein" = a 0 4→Str.ofString "_law_bounds_here" = a 0 5→Str.ofString "_law_bounds" = a 0 6→Str.ofString "len" = a 0 7→Str.ofString "_law_k" = a 0 8→Str.ofString "range" = a 0 9→Str.ofString "_law_num" = a 0 10→Str.ofString "stake" = a 0 11→Str.ofString "pay" = a 1 0→Str.ofString "_law_some_fact" = a 1 1→Str.ofString "_law_script" = a 1 2→Str.ofString "_law_way" = a 1 3→Str.ofString "_law_draw" = a 1 4→Str.ofString "_law_dig" = a 1 5→Str.ofString "_law_pay" = a 1 6→Str.ofString "_law_fact" = a 1 7→Str.ofString "_law_thing" = a 1 8→Str.ofString "_law_j" = a 1 9→Str.ofString "_law_things" = a 1 10→Str.ofString "3" = a 1 11→Str.ofString "" = a 2 0→Str.ofString "work" = a 2 1→Str.ofString "_law_vein_bent" = a 2 2→Str.ofString "_law_steps_here" = a 2 3→Str.ofString "_law_outs_here" = a 2 4→Str.ofString "_law_bent_fact" = a 2 5→Str.ofString "_law_thing_here" = a 2 6→Str.ofString "_law_at" = a 2 7→Str.ofString "_law_words" = a 2 8→Str.ofString "Vein" = a 2 9→Str.ofString "veins" = a 2 10→Str.ofString "work " = a 2 11→Str.ofString "give" = a 3 0→Str.ofString "join" = a 3 1→Str.ofString "sell" = a 3 2→Str.ofString "part" = a 3 3→Str.ofString "dig" = a 3 4→Str.ofString "tuple" = a 3 5→Str.ofString ".0" = a 3 6→Str.ofString "fast" = a 3 7→Str.ofString "law" = a 3 8→Str.ofString "_law_size" = a 3 9→Str.ofString "_law_count" = a 3 10→Str.ofString "min" = a 3 11→Str.ofString "_law_steps" = a 4 0→Str.ofString "_law_same" = a 4 1→Str.ofString "sound" = a 4 2→Str.ofString "_law_mouth" = a 4 3→Str.ofString "_law_rect" = a 4 4→Str.ofString "_law_spot" = a 4 5→Str.ofString "_law_worth" = a 4 6→Str.ofString "_law_who" = a 4 7→Str.ofString "_law_giver" = a 4 8→Str.ofString "_law_taker" = a 4 9→Str.ofString "_law_low" = a 4 10→Str.ofString "_law_high" = a 4 11→Str.ofString "isinstance" = a 5 0→Str.ofString "int" = a 5 1→Str.ofString "bool" = a 5 2→Str.ofString "_law_word" = a 5 3→Str.ofString "_law_day" = a 5 4→Str.ofString "_law_folk" = a 5 5→Str.ofString "_law_coins" = a 5 6→Str.ofString "_law_x" = a 5 7→Str.ofString "_law_y" = a 5 8→Str.ofString "_law_rows" = a 5 9→Str.ofString "get" = a 5 10→Str.ofString "all" = a 5 11→Str.ofString "_law_step" = a 6 0→Str.ofString "_law_cell" = a 6 1→Str.ofString "_law_pick" = a 6 2→Str.ofString "_law_names" = a 6 3→Str.ofString "_law_vein" = a 6 4→Str.ofString "_law_outs" = a 6 5→Str.ofString "_law_claim_fact" = a 6 6→Str.ofString "_law_claim" = a 6 7→Str.ofString "_law_who_here" = a 6 8→Str.ofString "_law_side" = a 6 9→Str.ofString "_law_line" = a 6 10→Str.ofString "_law_plan" = a 6 11→Str.ofString "_law_veins" = a 7 0→Str.ofString "_law_floor" = a 7 1→Str.ofString "_law_found" = a 7 2→Str.ofString "_law_due" = a 7 3→Str.ofString "list" = a 7 4→Str.ofString "_law_like" = a 7 5→Str.ofString "str" = a 7 6→Str.ofString "_law_wide" = a 7 7→Str.ofString "_law_tall" = a 7 8→Str.ofString "_law_deep" = a 7 9→Str.ofString "_law_sizes" = a 7 10→Str.ofString "sorted" = a 7 11→Str.ofString "_law_first" = a 8 0→Str.ofString "_law_stride" = a 8 1→Str.ofString "_law_place" = a 8 2→Str.ofString "append" = a 8 3→Str.ofString "sound_vein" = a 8 4→Str.ofString "size" = a 8 5→Str.ofString "fact" = a 8 6→Str.ofString "good_steps" = a 8 7→Str.ofString "good_outcrops" = a 8 8→Str.ofString "numbers_agree" = a 8 9→Str.ofString "ASKS" = a 8 10→Str.ofString "all_fit" = a 8 11→Str.ofString "__name__" = a 9 0→Str.ofString "law_dipright_k05_facts_by_their_shape" = a 9 1→Str.ofString "_law_many" = a 9 2→Str.ofString "_law_turn" = a 9 3→Str.ofString "_law_rest" = a 9 4→Str.ofString "_law_one" = a 9 5→Str.ofString "_law_two" = a 9 6→Str.ofString "fits" = a 9 7→Str.ofString "value" = a 9 8→Str.ofString "bound" = a 9 9→Str.ofString "asked" = a 9 10→Str.ofString "values" = a 9 11→Str.ofString "known" = a 10 0→Str.ofString "bounds" = a 10 1→Str.ofString "kind" = a 10 2→Str.ofString "zip" = a 10 3→Str.ofString "is_cell" = a 10 4→Str.ofString "thing" = a 10 5→Str.ofString "x" = a 10 6→Str.ofString "y" = a 10 7→Str.ofString "steps" = a 10 8→Str.ofString "step" = a 10 9→Str.ofString "outcrops" = a 10 10→Str.ofString "MOST_COLUMNS" = a 10 11→Str.ofString "set" = a 11 0→Str.ofString "STEPS" = a 11 1→Str.ofString "COINS" = a 11 2→Str.ofString "day" = a 11 3→Str.ofString "below" = a 11 4→Str.ofString "folk" = a 11 5→Str.ofString "side" = a 11 6→Str.ofString "line" = a 11 7→Str.ofString "floor" = a 11 8→Str.ofString "coins" = a 11 9→Str.ofString "DAYS" = a 11 10→Str.ofString "FOLK" = a 11 11→Str.ofString "SIDES" = a 12 0→Str.ofString "LINES" = a 12 1→Str.ofString "dipright.facts" = a 12 2→Str.ofString "/claim/cut.py" = a 12 3→PySem.Challenge.pw_dipright_k05_facts_by_their_shape=x)→Program) _ ?h
 (case f=>exact fun x _=>x)
 (case h=>intros; delta PySem.Challenge.pw_dipright_k05_facts_by_their_shape; conv=>lhs; simp only[*])
noncomputable abbrev fnD(x y:Str)(s:Stmt):=FuncData.mk x y (defArgs s) (.stmts (defBody s)) (defScope s)
noncomputable abbrev fq(x:Str)(s:Stmt)(m r:Value):=fnD x x s 3 [] .none .none .none m Option.none r .none 0
noncomputable abbrev kh:=PyData.keyHash
noncomputable abbrev de(P:Params)(x:Str)(k:Nat)(v:Value):=DictEntry.mk (kh P x) (.str x k) v
noncomputable abbrev oq(u:String)(x:Array Value):=Obj.mk (.type u) Option.none (.seq x) #[]
noncomputable abbrev cq(u:String)(f x:Str)(k l m:Nat)(i j:Int)(r:Nat)(o:Int)(s:Nat)(v w z:Value)(p:Int)(q:Nat):=Obj.mk (.type u) Option.none (.fields #[.str x k,.str x l,.str f m,.int i 0,.int j 0,.int 0 0,.int 0 0,.int 3 0,.ref r,.bool Bool.true,.int o 0,.ref s,.none,v,w,z,.int p 0,.int i 0,.str f q]) #[]
noncomputable def KG(tp:Nat→Stmt)(a:Nat→Nat→Str)(u0 u1 u2 u3 u4:String)(P:Params):PySem.W.Frag:=(nat_lit 2,Obj.mk .none Option.none (.dict #[]) #[]) ::
(nat_lit 3,Obj.mk (.type u0) Option.none (.dict #[de P (a 9 0) 165 (.str (a 9 1) 318),de P (a 12 4) 166 .none,de P (a 12 5) 167 .none,de P (a 12 6) 168 (.builtin u1),de P (a 12 7) 169 .none,de P (a 12 8) 170 (.ref 6),de P (a 12 9) 171 (.ref 4),de P (a 12 10) 173 (.str (a 12 3) 172),de P (a 12 11) 174 .none,de P (a 11 10) 191 (.ref 15),de P (a 11 11) 194 (.ref 16),de P (a 12 0) 197 (.ref 17),de P (a 12 1) 200 (.ref 18),de P (a 11 1) 203 (.ref 19),de P (a 11 2) 206 (.ref 20),de P (a 10 11) 208 (.int 16 207),de P (a 8 10) 251 (.ref 21),de P (a 10 1) 258 (.ref 36),de P (a 9 7) 266 (.ref 43),de P (a 8 11) 272 (.ref 48),de P (a 10 4) 280 (.ref 55),de P (a 8 7) 288 (.ref 62),de P (a 8 8) 294 (.ref 67),de P (a 8 4) 302 (.ref 74),de P (a 8 9) 309 (.ref 81),de P (a 4 2) 317 (.ref 88),de P (a 1 4) 335 (.ref 95),de P (a 4 1) 341 (.ref 100),de P (a 3 9) 353 (.ref 107),de P (a 4 4) 366 (.ref 114),de P (a 4 0) 372 (.ref 119),de P (a 6 5) 388 (.ref 126),de P (a 4 7) 397 (.ref 133),de P (a 6 2) 407 (.ref 140),de P (a 6 4) 416 (.ref 147),de P (a 6 6) 431 (.ref 154),de P (a 1 7) 437 (.ref 159),de P (a 1 5) 449 (.ref 166),de P (a 1 6) 459 (.ref 173),de P (a 0 10) 468 (.ref 180),de P (a 0 6) 482 (.ref 187),de P (a 0 4) 488 (.ref 192),de P (a 0 0) 498 (.ref 199),de P (a 1 1) 508 (.ref 206),de P (a 1 8) 518 (.ref 213),de P (a 2 2) 530 (.ref 220),de P (a 2 5) 536 (.ref 225),de P (a 3 8) 542 (.ref 230)] 48) #[]) ::
(nat_lit 15,oq u2 #[.int 1 189,.int 400 190]) ::
(nat_lit 16,oq u2 #[.int 1 192,.int 40 193]) ::
(nat_lit 17,oq u2 #[.int 0 195,.int 1 196]) ::
(nat_lit 18,oq u2 #[.int 1 198,.int 23 199]) ::
(nat_lit 19,oq u2 #[.int 0 201,.int 4 202]) ::
(nat_lit 20,oq u2 #[.int 1 204,.int 1000000 205]) ::
(nat_lit 21,Obj.mk (.type u0) Option.none (.dict #[de P (a 3 1) 209 (.ref 22),de P (a 0 11) 213 (.ref 23),de P (a 2 1) 219 (.ref 24),de P (a 3 2) 221 (.ref 25),de P (a 3 3) 224 (.ref 26),de P (a 3 0) 229 (.ref 27),de P (a 3 4) 231 (.ref 28),de P (a 1 0) 239 (.ref 29)] 8) #[]) ::
(nat_lit 22,oq u2 #[.str (a 11 3) 210,.str (a 11 3) 211,.str (a 11 4) 212]) ::
(nat_lit 23,oq u2 #[.str (a 11 5) 214,.str (a 10 6) 215,.str (a 10 7) 216,.str (a 10 6) 217,.str (a 10 7) 218]) ::
(nat_lit 24,oq u2 #[.str (a 11 3) 220]) ::
(nat_lit 25,oq u2 #[.str (a 11 3) 222,.str (a 11 5) 223]) ::
(nat_lit 26,oq u2 #[.str (a 11 3) 225,.str (a 11 6) 226,.str (a 11 7) 227,.str (a 11 5) 228]) ::
(nat_lit 27,oq u2 #[.str (a 11 3) 230]) ::
(nat_lit 28,oq u2 #[.str (a 11 5) 232,.str (a 10 6) 233,.str (a 10 7) 234,.str (a 10 6) 235,.str (a 10 7) 236,.str (a 11 8) 237,.str (a 11 9) 238]) ::
(nat_lit 29,oq u2 #[.str (a 11 5) 240,.str (a 11 5) 241,.str (a 11 9) 242]) ::
(nat_lit 30,oq u2 #[]) ::
(nat_lit 32,oq u2 #[.str (a 8 5) 255]) ::
(nat_lit 33,oq u2 #[]) ::
(nat_lit 35,cq u3 (a 12 3) (a 10 1) 252 253 254 10 1 30 181 31 (.ref 32) (.ref 33) (.ref 34) 256 257) ::
(nat_lit 36,Obj.mk (.type u4) Option.none (.func (fq (a 10 1) (tp 9) (.str (a 12 2) 187) (.ref 35))) #[]) ::
(nat_lit 37,oq u2 #[]) ::
(nat_lit 39,oq u2 #[.str (a 9 8) 262,.str (a 9 9) 263]) ::
(nat_lit 40,oq u2 #[]) ::
(nat_lit 42,cq u3 (a 12 3) (a 9 7) 259 260 261 12 2 37 181 38 (.ref 39) (.ref 40) (.ref 41) 264 265) ::
(nat_lit 43,Obj.mk (.type u4) Option.none (.func (fq (a 9 7) (tp 10) (.str (a 12 2) 187) (.ref 42))) #[]) ::
(nat_lit 44,oq u2 #[]) ::
(nat_lit 47,cq u3 (a 12 3) (a 8 11) 267 268 269 16 3 44 181 45 (.none) (.none) (.ref 46) 270 271) ::
(nat_lit 48,Obj.mk (.type u4) Option.none (.func (fq (a 8 11) (tp 11) (.str (a 12 2) 187) (.ref 47))) #[]) ::
(nat_lit 49,oq u2 #[]) ::
(nat_lit 51,oq u2 #[.str (a 8 5) 276,.str (a 10 5) 277]) ::
(nat_lit 52,oq u2 #[]) ::
(nat_lit 54,cq u3 (a 12 3) (a 10 4) 273 274 275 21 2 49 181 50 (.ref 51) (.ref 52) (.ref 53) 278 279) ::
(nat_lit 55,Obj.mk (.type u4) Option.none (.func (fq (a 10 4) (tp 12) (.str (a 12 2) 187) (.ref 54))) #[]) ::
(nat_lit 56,oq u2 #[]) ::
(nat_lit 58,oq u2 #[.str (a 8 5) 284,.str (a 10 8) 285]) ::
(nat_lit 59,oq u2 #[]) ::
(nat_lit 61,cq u3 (a 12 3) (a 8 7) 281 282 283 23 2 56 181 57 (.ref 58) (.ref 59) (.ref 60) 286 287) ::
(nat_lit 62,Obj.mk (.type u4) Option.none (.func (fq (a 8 7) (tp 13) (.str (a 12 2) 187) (.ref 61))) #[]) ::
(nat_lit 63,oq u2 #[]) ::
(nat_lit 66,cq u3 (a 12 3) (a 8 8) 289 290 291 25 2 63 181 64 (.none) (.none) (.ref 65) 292 293) ::
(nat_lit 67,Obj.mk (.type u4) Option.none (.func (fq (a 8 8) (tp 14) (.str (a 12 2) 187) (.ref 66))) #[]) ::
(nat_lit 68,oq u2 #[]) ::
(nat_lit 70,oq u2 #[.str (a 8 5) 298,.str (a 8 6) 299]) ::
(nat_lit 71,oq u2 #[]) ::
(nat_lit 73,cq u3 (a 12 3) (a 8 4) 295 296 297 31 2 68 181 69 (.ref 70) (.ref 71) (.ref 72) 300 301) ::
(nat_lit 74,Obj.mk (.type u4) Option.none (.func (fq (a 8 4) (tp 15) (.str (a 12 2) 187) (.ref 73))) #[]) ::
(nat_lit 75,oq u2 #[]) ::
(nat_lit 77,oq u2 #[.str (a 8 6) 306]) ::
(nat_lit 78,oq u2 #[]) ::
(nat_lit 80,cq u3 (a 12 3) (a 8 9) 303 304 305 33 1 75 181 76 (.ref 77) (.ref 78) (.ref 79) 307 308) ::
(nat_lit 81,Obj.mk (.type u4) Option.none (.func (fq (a 8 9) (tp 16) (.str (a 12 2) 187) (.ref 80))) #[]) ::
(nat_lit 82,oq u2 #[]) ::
(nat_lit 84,oq u2 #[.str (a 8 5) 313,.str (a 8 6) 314]) ::
(nat_lit 85,oq u2 #[]) ::
(nat_lit 87,cq u3 (a 12 3) (a 4 2) 310 311 312 39 2 82 181 83 (.ref 84) (.ref 85) (.ref 86) 315 316) ::
(nat_lit 88,Obj.mk (.type u4) Option.none (.func (fq (a 4 2) (tp 17) (.str (a 12 2) 187) (.ref 87))) #[]) ::
(nat_lit 89,oq u2 #[]) ::
(nat_lit 91,oq u2 #[.str (a 1 2) 323,.str (a 0 8) 324,.str (a 1 9) 325,.str (a 9 2) 326,.str (a 6 1) 327,.str (a 9 3) 328,.str (a 9 4) 329,.str (a 6 0) 330,.str (a 9 5) 331,.str (a 9 6) 332]) ::
(nat_lit 92,oq u2 #[]) ::
(nat_lit 94,cq u3 (a 12 3) (a 1 4) 320 321 322 46 4 89 181 90 (.ref 91) (.ref 92) (.ref 93) 333 334) ::
(nat_lit 95,Obj.mk (.type u4) Option.none (.func (fq (a 1 4) (tp 19) (.str (a 9 1) 318) (.ref 94))) #[]) ::
(nat_lit 96,oq u2 #[]) ::
(nat_lit 99,cq u3 (a 12 3) (a 4 1) 336 337 338 61 2 96 181 97 (.none) (.none) (.ref 98) 339 340) ::
(nat_lit 100,Obj.mk (.type u4) Option.none (.func (fq (a 4 1) (tp 20) (.str (a 9 1) 318) (.ref 99))) #[]) ::
(nat_lit 101,oq u2 #[]) ::
(nat_lit 103,oq u2 #[.str (a 1 2) 345,.str (a 0 8) 346,.str (a 7 7) 347,.str (a 7 8) 348,.str (a 7 9) 349,.str (a 7 10) 350]) ::
(nat_lit 104,oq u2 #[]) ::
(nat_lit 106,cq u3 (a 12 3) (a 3 9) 342 343 344 70 2 101 181 102 (.ref 103) (.ref 104) (.ref 105) 351 352) ::
(nat_lit 107,Obj.mk (.type u4) Option.none (.func (fq (a 3 9) (tp 21) (.str (a 9 1) 318) (.ref 106))) #[]) ::
(nat_lit 108,oq u2 #[]) ::
(nat_lit 110,oq u2 #[.str (a 1 2) 357,.str (a 0 8) 358,.str (a 1 9) 359,.str (a 7 7) 360,.str (a 7 8) 361,.str (a 5 7) 362,.str (a 5 8) 363]) ::
(nat_lit 111,oq u2 #[]) ::
(nat_lit 113,cq u3 (a 12 3) (a 4 4) 354 355 356 77 5 108 181 109 (.ref 110) (.ref 111) (.ref 112) 364 365) ::
(nat_lit 114,Obj.mk (.type u4) Option.none (.func (fq (a 4 4) (tp 22) (.str (a 9 1) 318) (.ref 113))) #[]) ::
(nat_lit 115,oq u2 #[]) ::
(nat_lit 118,cq u3 (a 12 3) (a 4 0) 367 368 369 81 4 115 181 116 (.none) (.none) (.ref 117) 370 371) ::
(nat_lit 119,Obj.mk (.type u4) Option.none (.func (fq (a 4 0) (tp 23) (.str (a 9 1) 318) (.ref 118))) #[]) ::
(nat_lit 120,oq u2 #[]) ::
(nat_lit 122,oq u2 #[.str (a 1 2) 376,.str (a 0 8) 377,.str (a 1 9) 378,.str (a 0 1) 379,.str (a 3 10) 380,.str (a 8 0) 381,.str (a 8 1) 382,.str (a 7 2) 383,.str (a 2 7) 384,.str (a 8 2) 385]) ::
(nat_lit 123,oq u2 #[]) ::
(nat_lit 125,cq u3 (a 12 3) (a 6 5) 373 374 375 83 4 120 181 121 (.ref 122) (.ref 123) (.ref 124) 386 387) ::
(nat_lit 126,Obj.mk (.type u4) Option.none (.func (fq (a 6 5) (tp 24) (.str (a 9 1) 318) (.ref 125))) #[]) ::
(nat_lit 127,oq u2 #[]) ::
(nat_lit 129,oq u2 #[.str (a 1 2) 392,.str (a 0 8) 393,.str (a 1 9) 394]) ::
(nat_lit 130,oq u2 #[]) ::
(nat_lit 132,cq u3 (a 12 3) (a 4 7) 389 390 391 93 3 127 181 128 (.ref 129) (.ref 130) (.ref 131) 395 396) ::
(nat_lit 133,Obj.mk (.type u4) Option.none (.func (fq (a 4 7) (tp 25) (.str (a 9 1) 318) (.ref 132))) #[]) ::
(nat_lit 134,oq u2 #[]) ::
(nat_lit 136,oq u2 #[.str (a 1 2) 401,.str (a 0 8) 402,.str (a 1 9) 403,.str (a 6 3) 404]) ::
(nat_lit 137,oq u2 #[]) ::
(nat_lit 139,cq u3 (a 12 3) (a 6 2) 398 399 400 95 4 134 181 135 (.ref 136) (.ref 137) (.ref 138) 405 406) ::
(nat_lit 140,Obj.mk (.type u4) Option.none (.func (fq (a 6 2) (tp 26) (.str (a 9 1) 318) (.ref 139))) #[]) ::
(nat_lit 141,oq u2 #[]) ::
(nat_lit 143,oq u2 #[.str (a 1 2) 411,.str (a 0 8) 412,.str (a 0 1) 413]) ::
(nat_lit 144,oq u2 #[]) ::
(nat_lit 146,cq u3 (a 12 3) (a 6 4) 408 409 410 99 3 141 181 142 (.ref 143) (.ref 144) (.ref 145) 414 415) ::
(nat_lit 147,Obj.mk (.type u4) Option.none (.func (fq (a 6 4) (tp 27) (.str (a 9 1) 318) (.ref 146))) #[]) ::
(nat_lit 148,oq u2 #[]) ::
(nat_lit 150,oq u2 #[.str (a 1 2) 420,.str (a 0 8) 421,.str (a 1 3) 422,.str (a 0 1) 423,.str (a 6 3) 424,.str (a 6 7) 425,.str (a 6 8) 426,.str (a 6 9) 427,.str (a 6 10) 428]) ::
(nat_lit 151,oq u2 #[]) ::
(nat_lit 153,cq u3 (a 12 3) (a 6 6) 417 418 419 101 5 148 181 149 (.ref 150) (.ref 151) (.ref 152) 429 430) ::
(nat_lit 154,Obj.mk (.type u4) Option.none (.func (fq (a 6 6) (tp 28) (.str (a 9 1) 318) (.ref 153))) #[]) ::
(nat_lit 155,oq u2 #[]) ::
(nat_lit 158,cq u3 (a 12 3) (a 1 7) 432 433 434 109 4 155 181 156 (.none) (.none) (.ref 157) 435 436) ::
(nat_lit 159,Obj.mk (.type u4) Option.none (.func (fq (a 1 7) (tp 29) (.str (a 9 1) 318) (.ref 158))) #[]) ::
(nat_lit 160,oq u2 #[]) ::
(nat_lit 162,oq u2 #[.str (a 1 2) 441,.str (a 0 8) 442,.str (a 0 1) 443,.str (a 4 3) 444,.str (a 4 5) 445,.str (a 4 6) 446]) ::
(nat_lit 163,oq u2 #[]) ::
(nat_lit 165,cq u3 (a 12 3) (a 1 5) 438 439 440 121 3 160 181 161 (.ref 162) (.ref 163) (.ref 164) 447 448) ::
(nat_lit 166,Obj.mk (.type u4) Option.none (.func (fq (a 1 5) (tp 30) (.str (a 9 1) 318) (.ref 165))) #[]) ::
(nat_lit 167,oq u2 #[]) ::
(nat_lit 169,oq u2 #[.str (a 1 2) 453,.str (a 0 8) 454,.str (a 4 8) 455,.str (a 4 9) 456]) ::
(nat_lit 170,oq u2 #[]) ::
(nat_lit 172,cq u3 (a 12 3) (a 1 6) 450 451 452 126 2 167 181 168 (.ref 169) (.ref 170) (.ref 171) 457 458) ::
(nat_lit 173,Obj.mk (.type u4) Option.none (.func (fq (a 1 6) (tp 31) (.str (a 9 1) 318) (.ref 172))) #[]) ::
(nat_lit 174,oq u2 #[]) ::
(nat_lit 176,oq u2 #[.str (a 2 6) 463,.str (a 4 10) 464,.str (a 4 11) 465]) ::
(nat_lit 177,oq u2 #[]) ::
(nat_lit 179,cq u3 (a 12 3) (a 0 10) 460 461 462 132 3 174 181 175 (.ref 176) (.ref 177) (.ref 178) 466 467) ::
(nat_lit 180,Obj.mk (.type u4) Option.none (.func (fq (a 0 10) (tp 32) (.str (a 9 1) 318) (.ref 179))) #[]) ::
(nat_lit 181,oq u2 #[]) ::
(nat_lit 183,oq u2 #[.str (a 0 1) 472,.str (a 5 3) 473,.str (a 5 4) 474,.str (a 5 5) 475,.str (a 5 6) 476,.str (a 5 7) 477,.str (a 5 8) 478,.str (a 5 9) 479]) ::
(nat_lit 184,oq u2 #[]) ::
(nat_lit 186,cq u3 (a 12 3) (a 0 6) 469 470 471 134 2 181 181 182 (.ref 183) (.ref 184) (.ref 185) 480 481) ::
(nat_lit 187,Obj.mk (.type u4) Option.none (.func (fq (a 0 6) (tp 33) (.str (a 9 1) 318) (.ref 186))) #[]) ::
(nat_lit 188,oq u2 #[]) ::
(nat_lit 191,cq u3 (a 12 3) (a 0 4) 483 484 485 147 2 188 181 189 (.none) (.none) (.ref 190) 486 487) ::
(nat_lit 192,Obj.mk (.type u4) Option.none (.func (fq (a 0 4) (tp 34) (.str (a 9 1) 318) (.ref 191))) #[]) ::
(nat_lit 193,oq u2 #[]) ::
(nat_lit 195,oq u2 #[.str (a 0 1) 492,.str (a 0 2) 493,.str (a 0 5) 494,.str (a 0 8) 495]) ::
(nat_lit 196,oq u2 #[]) ::
(nat_lit 198,cq u3 (a 12 3) (a 0 0) 489 490 491 161 2 193 181 194 (.ref 195) (.ref 196) (.ref 197) 496 497) ::
(nat_lit 199,Obj.mk (.type u4) Option.none (.func (fq (a 0 0) (tp 35) (.str (a 9 1) 318) (.ref 198))) #[]) ::
(nat_lit 200,oq u2 #[]) ::
(nat_lit 202,oq u2 #[.str (a 1 2) 502,.str (a 0 8) 503,.str (a 0 1) 504,.str (a 1 3) 505]) ::
(nat_lit 203,oq u2 #[]) ::
(nat_lit 205,cq u3 (a 12 3) (a 1 1) 499 500 501 173 3 200 181 201 (.ref 202) (.ref 203) (.ref 204) 506 507) ::
(nat_lit 206,Obj.mk (.type u4) Option.none (.func (fq (a 1 1) (tp 36) (.str (a 9 1) 318) (.ref 205))) #[]) ::
(nat_lit 207,oq u2 #[]) ::
(nat_lit 209,oq u2 #[.str (a 1 2) 512,.str (a 0 8) 513,.str (a 1 9) 514,.str (a 1 10) 515]) ::
(nat_lit 210,oq u2 #[]) ::
(nat_lit 212,cq u3 (a 12 3) (a 1 8) 509 510 511 180 3 207 181 208 (.ref 209) (.ref 210) (.ref 211) 516 517) ::
(nat_lit 213,Obj.mk (.type u4) Option.none (.func (fq (a 1 8) (tp 37) (.str (a 9 1) 318) (.ref 212))) #[]) ::
(nat_lit 214,oq u2 #[]) ::
(nat_lit 216,oq u2 #[.str (a 1 2) 522,.str (a 0 8) 523,.str (a 1 3) 524,.str (a 0 2) 525,.str (a 2 3) 526,.str (a 2 4) 527]) ::
(nat_lit 217,oq u2 #[]) ::
(nat_lit 219,cq u3 (a 12 3) (a 2 2) 519 520 521 183 4 214 181 215 (.ref 216) (.ref 217) (.ref 218) 528 529) ::
(nat_lit 220,Obj.mk (.type u4) Option.none (.func (fq (a 2 2) (tp 38) (.str (a 9 1) 318) (.ref 219))) #[]) ::
(nat_lit 221,oq u2 #[]) ::
(nat_lit 224,cq u3 (a 12 3) (a 2 5) 531 532 533 195 3 221 181 222 (.none) (.none) (.ref 223) 534 535) ::
(nat_lit 225,Obj.mk (.type u4) Option.none (.func (fq (a 2 5) (tp 39) (.str (a 9 1) 318) (.ref 224))) #[]) ::
(nat_lit 226,oq u2 #[]) ::
(nat_lit 229,cq u3 (a 12 3) (a 3 8) 537 538 539 212 1 226 181 227 (.none) (.none) (.ref 228) 540 541) ::
(nat_lit 230,Obj.mk (.type u4) Option.none (.func (fq (a 3 8) (tp 40) (.str (a 9 1) 318) (.ref 229))) #[])::[]
noncomputable def KF:Params→PySem.W.Frag:=KG top Af b0 b1 b2 b3 b4
noncomputable def KH(P:Params):PySem.W.Frag:=by refine'(?f:(x:PySem.W.Frag)→KF P=x→PySem.W.Frag) _ ?h; (case f=>exact fun x _=>x); (case h=>conv=>lhs; whnf)
def S0:Stmt:=top 0
def S1:Stmt:=top 1
def S2:Stmt:=top 2
def S3:Stmt:=top 3
def S4:Stmt:=top 4
def S5:Stmt:=top 5
def S6:Stmt:=top 6
def S7:Stmt:=top 7
def S8:Stmt:=top 8
def S9:Stmt:=top 9
def S10:Stmt:=top 10
def S11:Stmt:=top 11
def S12:Stmt:=top 12
def S13:Stmt:=top 13
def S14:Stmt:=top 14
def S15:Stmt:=top 15
def S16:Stmt:=top 16
def S17:Stmt:=top 17
def S18:Stmt:=top 18
def S19:Stmt:=top 19
def S20:Stmt:=top 20
def S21:Stmt:=top 21
def S22:Stmt:=top 22
def S23:Stmt:=top 23
def S24:Stmt:=top 24
def S25:Stmt:=top 25
def S26:Stmt:=top 26
def S27:Stmt:=top 27
def S28:Stmt:=top 28
def S29:Stmt:=top 29
def S30:Stmt:=top 30
def S31:Stmt:=top 31
def S32:Stmt:=top 32
def S33:Stmt:=top 33
def S34:Stmt:=top 34
def S35:Stmt:=top 35
def S36:Stmt:=top 36
def S37:Stmt:=top 37
def S38:Stmt:=top 38
def S39:Stmt:=top 39
def S40:Stmt:=top 40
def pw:Program:={ PySem.Challenge.pw_dipright_k05_facts_by_their_shape with main:={ PySem.Challenge.pw_dipright_k05_facts_by_their_shape.main with body:=[S0,S1,S2,S3,S4,S5,S6,S7,S8,S9,S10,S11,S12,S13,S14,S15,S16,S17,S18,S19,S20,S21,S22,S23,S24,S25,S26,S27,S28,S29,S30,S31,S32,S33,S34,S35,S36,S37,S38,S39,S40] } }
def rw:PySem.W.OpenLaw:={ PySem.Challenge.rw_dipright_k05_facts_by_their_shape with prog:=pw }
theorem rwE:rw=PySem.Challenge.rw_dipright_k05_facts_by_their_shape:=by kernel_rfl
end K05
namespace PySem.W.Fast
open PySem K05
noncomputable def tw5604296678078880930:Program:=G tw1017880386412572579
theorem te5604296678078880930:PySem.Challenge.pw_dipright_k05_facts_by_their_shape=tw5604296678078880930:=Eq.trans (b:=G Af) (by kernel_rfl) (congrArg G te1017880386412572579)
noncomputable def tw16748287665482154484(i:Nat):Stmt:=tw5604296678078880930.main.body.getD i (.Pass ⟨0,0,0,0⟩)
theorem te16748287665482154484:top=tw16748287665482154484:=funext fun i=>congrArg (fun p:Program=>p.main.body.getD i (.Pass ⟨0,0,0,0⟩)) te5604296678078880930
noncomputable def tw12014840179699699003:Params→Frag:=KG tw16748287665482154484 tw1017880386412572579 tw16651958542075619143 tw15330703745735912348 tw17954822284480308015 tw11311987341954163475 tw12722780252767112725
theorem te12014840179699699003:KF=tw12014840179699699003:=congr (congr (congr (congr (congr (congr (congrArg KG te16748287665482154484) te1017880386412572579) te16651958542075619143) te15330703745735912348) te17954822284480308015) te11311987341954163475) te12722780252767112725
end PySem.W.Fast
open PySem PySem.W PyProof.Rows
set_option maxRecDepth 100000 in
set_option maxHeartbeats 0 in
theorem PySem.Challenge.cw_dipright_k05_facts_by_their_shape_holds : PySem.Challenge.rw_dipright_k05_facts_by_their_shape.Holds := by
 refine(congrArg PySem.W.OpenLaw.Holds K05.rwE).mp ?_
 w_on; o_law; o_head (kHook K05.KF [2,3,15,16,17,18,19,20,21,22,23,24,25,26,27,28,29,30,32,33,35,36,37,39,40,42,43,44,47,48,49,51,52,54,55,56,58,59,61,62,63,66,67,68,70,71,73,74,75,77,78,80,81,82,84,85,87,88,89,91,92,94,95,96,99,100,101,103,104,106,107,108,110,111,113,114,115,118,119,120,122,123,125,126,127,129,130,132,133,134,136,137,139,140,141,143,144,146,147,148,150,151,153,154,155,158,159,160,162,163,165,166,167,169,170,172,173,174,176,177,179,180,181,183,184,186,187,188,191,192,193,195,196,198,199,200,202,203,205,206,207,209,210,212,213,214,216,217,219,220,221,224,225,226,229,230] (fun _=>by kernel_rfl)); (case hw=>w_witness2)
 refine MS.walk_law (l:=K05.rw) (K:=K05.KH) (k:=20) (x:="_law_script") rfl rfl ⟨rfl,by decide,by decide⟩ (fun w h Y=>PySem.W.kIn_of Y) ?F
 case F=>
  intro w mg fa h KX G hmg
  k_fill
  refine' K05.all_mk KX G hmg (.mk ?a0 ?l0 ?c0 ?k0) (.mk ?a1 ?l1 ?c1 ?k1) (.mk ?a2 ?l2 ?c2 ?k2) (.mk ?a3 ?l3 ?c3 ?k3) (.mk ?a4 ?l4 ?c4 ?k4) (.mk ?a5 ?l5 ?c5 ?k5) (.mk ?a6 ?l6 ?c6 ?k6) (.mk ?a7 ?l7 ?c7 ?k7) (.mk ?a8 ?l8 ?c8 ?k8) (.mk ?a9 ?l9 ?c9 ?k9) (.mk ?a10 ?l10 ?c10 ?k10) (.mk ?a11 ?l11 ?c11 ?k11) (.mk ?a12 ?l12 ?c12 ?k12) (.mk ?a13 ?l13 ?c13 ?k13) (.mk ?a14 ?l14 ?c14 ?k14) (.mk ?a15 ?l15 ?c15 ?k15) (.mk ?a16 ?l16 ?c16 ?k16) (.mk ?a17 ?l17 ?c17 ?k17) (.mk ?a18 ?l18 ?c18 ?k18) (.mk ?a19 ?l19 ?c19 ?k19) (.mk ?a20 ?l20 ?c20 ?k20) (.mk ?a21 ?l21 ?c21 ?k21) (.mk ?a22 ?l22 ?c22 ?k22) (.mk ?a23 ?l23 ?c23 ?k23) (.mk ?a24 ?l24 ?c24 ?k24) (.mk ?a25 ?l25 ?c25 ?k25) (.mk ?a26 ?l26 ?c26 ?k26) (.mk ?a27 ?l27 ?c27 ?k27) (.mk ?a28 ?l28 ?c28 ?k28) (.mk ?a29 ?l29 ?c29 ?k29) (.mk ?a30 ?l30 ?c30 ?k30) ?gl0 (.mk ?go0) ?gl1 (.mk ?go1) ?gl2 (.mk ?go2) ?gl3 (.mk ?go3) ?gl4 ?gl5 (.mk ?go4) ?gl6 (.mk ?go5) ?gl7 ?gO0 (.mk ?go6) (.mk ?go7) (.mk ?go8) (.mk ?go9) (.mk ?go10) (.mk ?go11) (.mk ?go12) (.mk ?go13) ?gm0 (.mk ?z0 ?z1 ?z2 ?z3 ?z4 ?z5 ?z6 ?z7 ?z8 ?z9 ?z10 ?z11 ?z12 ?z13 ?z14 ?z15 ?z16 ?z17 ?z18)
  (case a0=>k_is)
  (case l0=>k_is)
  (case c0=>k_is)
  (case k0=>k_is)
  (case a1=>k_is)
  (case l1=>k_is)
  (case c1=>k_is)
  (case k1=>k_is)
  (case a2=>k_is)
  (case l2=>k_is)
  (case c2=>k_is)
  (case k2=>k_is)
  (case a3=>k_is)
  (case l3=>k_is)
  (case c3=>k_is)
  (case k3=>k_is)
  (case a4=>k_is)
  (case l4=>k_is)
  (case c4=>k_is)
  (case k4=>k_is)
  (case a5=>k_is)
  (case l5=>k_is)
  (case c5=>k_is)
  (case k5=>k_is)
  (case a6=>k_is)
  (case l6=>k_is)
  (case c6=>k_is)
  (case k6=>k_is)
  (case a7=>k_is)
  (case l7=>k_is)
  (case c7=>k_is)
  (case k7=>k_is)
  (case a8=>k_is)
  (case l8=>k_is)
  (case c8=>k_is)
  (case k8=>k_is)
  (case a9=>k_is)
  (case l9=>k_is)
  (case c9=>k_is)
  (case k9=>k_is)
  (case a10=>k_is)
  (case l10=>k_is)
  (case c10=>k_is)
  (case k10=>k_is)
  (case a11=>k_is)
  (case l11=>k_is)
  (case c11=>k_is)
  (case k11=>k_is)
  (case a12=>k_is)
  (case l12=>k_is)
  (case c12=>k_is)
  (case k12=>k_is)
  (case a13=>k_is)
  (case l13=>k_is)
  (case c13=>k_is)
  (case k13=>k_is)
  (case a14=>k_is)
  (case l14=>k_is)
  (case c14=>k_is)
  (case k14=>k_is)
  (case a15=>k_is)
  (case l15=>k_is)
  (case c15=>k_is)
  (case k15=>k_is)
  (case a16=>k_is)
  (case l16=>k_is)
  (case c16=>k_is)
  (case k16=>k_is)
  (case a17=>k_is)
  (case l17=>k_is)
  (case c17=>k_is)
  (case k17=>k_is)
  (case a18=>k_is)
  (case l18=>k_is)
  (case c18=>k_is)
  (case k18=>k_is)
  (case a19=>k_is)
  (case l19=>k_is)
  (case c19=>k_is)
  (case k19=>k_is)
  (case a20=>k_is)
  (case l20=>k_is)
  (case c20=>k_is)
  (case k20=>k_is)
  (case a21=>k_is)
  (case l21=>k_is)
  (case c21=>k_is)
  (case k21=>k_is)
  (case a22=>k_is)
  (case l22=>k_is)
  (case c22=>k_is)
  (case k22=>k_is)
  (case a23=>k_is)
  (case l23=>k_is)
  (case c23=>k_is)
  (case k23=>k_is)
  (case a24=>k_is)
  (case l24=>k_is)
  (case c24=>k_is)
  (case k24=>k_is)
  (case a25=>k_is)
  (case l25=>k_is)
  (case c25=>k_is)
  (case k25=>k_is)
  (case a26=>k_is)
  (case l26=>k_is)
  (case c26=>k_is)
  (case k26=>k_is)
  (case a27=>k_is)
  (case l27=>k_is)
  (case c27=>k_is)
  (case k27=>k_is)
  (case a28=>k_is)
  (case l28=>k_is)
  (case c28=>k_is)
  (case k28=>k_is)
  (case a29=>k_is)
  (case l29=>k_is)
  (case c29=>k_is)
  (case k29=>k_is)
  (case a30=>k_is)
  (case l30=>k_is)
  (case c30=>k_is)
  (case k30=>k_is)
  (case gl0=>k_is)
  (case go0=>k_is)
  (case gl1=>k_is)
  (case go1=>k_is)
  (case gl2=>k_is)
  (case go2=>k_is)
  (case gl3=>k_is)
  (case go3=>k_is)
  (case gl4=>k_is)
  (case gl5=>k_is)
  (case go4=>k_is)
  (case gl6=>k_is)
  (case go5=>k_is)
  (case gl7=>k_is)
  (case gO0=>k_is)
  (case go6=>k_is)
  (case go7=>k_is)
  (case go8=>k_is)
  (case go9=>k_is)
  (case go10=>k_is)
  (case go11=>k_is)
  (case go12=>k_is)
  (case go13=>k_is)
  (case z0=>k_is)
  (case z1=>k_is)
  (case z2=>k_is)
  (case z3=>k_is)
  (case z4=>k_is)
  (case z5=>k_is)
  (case z6=>k_is)
  (case z7=>k_is)
  (case z8=>k_is)
  (case z9=>k_is)
  (case z10=>k_is)
  (case z11=>k_is)
  (case z12=>k_is)
  (case z13=>k_is)
  (case z14=>k_is)
  (case z15=>k_is)
  (case z16=>k_is)
  (case z17=>k_is)
  (case z18=>k_is)
  (case gm0=>rfl)
