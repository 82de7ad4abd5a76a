import PyProof.Rows.All
import Wide.All
import OpenK.AllK
import Wide.FinOn
import Lean
import PyProof.EqAt
import PyProof.EqKinds
import PyProof.TupleCall
import PyProof.NeKinds
import PyProof.ZipIter
import PyProof.StrLoop
import PyProof.StrWalks
import PyProof.StrCalls
import PyProof.StrCalls2
import PyProof.StrLawsIn
import PyProof.SliceStr2
import PyProof.StrBlock
import PyProof.Rows.StrFirst
import KE.KIntText
import PyProof.StrLawsChain
import PyProof.StrLawsTight
import PyProof.CallStr
import PyProof.Rows.FStr
import PySem.Challenge.RW_dipright_k07_facts_written_and_read
set_option Elab.async false
set_option linter.all false
set_option maxRecDepth 100000
set_option maxHeartbeats 4000000
section
set_option Elab.async false
set_option linter.all false
set_option maxRecDepth 100000
namespace L2
open PySem PySem.Spec PyProof.Rows
noncomputable abbrev Key:=Sum Int Str
noncomputable def keyIs : Key→Value→Bool
  | .inl k,v=>Value.isInt k v
  | .inr x,v=>Value.isStrOf x v
noncomputable def keyH (w : World) : Key→Int
  | .inl k=>hashInt k
  | .inr x=>hashStr w x
theorem keyIs_shape : ∀ {k : Key} {v : Value},keyIs k v = true→(∃ i t,k = Sum.inl i∧v = Value.int i t)∨(∃ x t,k = Sum.inr x∧v = Value.str x t)
  | .inl i,v,h=>by
    obtain ⟨t,e⟩:=Value.isInt_shape (k:=i) (v:=v) h
    exact .inl ⟨i,t,rfl,e⟩
  | .inr x,v,h=>by
    obtain ⟨t,e⟩:=Value.isStrOf_shape (x:=x) (v:=v) h
    exact .inr ⟨x,t,rfl,e⟩
theorem keyIs_int (i : Int) (t : Tok) : keyIs (.inl i) (.int i t) = true:=by simp [keyIs,Value.isInt]
theorem keyIs_str (x : Str) (t : Tok) : keyIs (.inr x) (.str x t) = true:=by simp [keyIs,Value.isStrOf]
theorem key_ll (a b : Int) : decide ((Sum.inl a : Key) = Sum.inl b) = (a == b):=by
  by_cases e : a = b
  · subst e; simp
  · have h : ¬ (Sum.inl a : Key) = Sum.inl b:=fun q=>e (Sum.inl.inj q)
    rw [decide_eq_false h]
    exact (beq_eq_false_iff_ne.mpr e).symm
theorem key_rr (a b : Str) : decide ((Sum.inr a : Key) = Sum.inr b) = decide (a = b):=by
  by_cases e : a = b
  · subst e; simp
  · have h : ¬ (Sum.inr a : Key) = Sum.inr b:=fun q=>e (Sum.inr.inj q)
    rw [decide_eq_false h,decide_eq_false e]
theorem key_lr (a : Int) (b : Str) : decide ((Sum.inl a : Key) = Sum.inr b) = false:=decide_eq_false (fun q=>nomatch q)
theorem key_rl (a : Str) (b : Int) : decide ((Sum.inr a : Key) = Sum.inl b) = false:=decide_eq_false (fun q=>nomatch q)
noncomputable def mixKind (prog : Program) (w : World) : PySem.KeyKind prog w Key where
  is:=keyIs
  hash:=keyH w
  inj:=fun v a b ha hb=>by
    rcases keyIs_shape ha with ⟨i,t,rfl,rfl⟩ | ⟨x,t,rfl,rfl⟩
    · rcases keyIs_shape hb with ⟨j,u,rfl,e⟩ | ⟨y,u,rfl,e⟩
      · injection e with e1 _; rw [e1]
      · exact nomatch e
    · rcases keyIs_shape hb with ⟨j,u,rfl,e⟩ | ⟨y,u,rfl,e⟩
      · exact nomatch e
      · injection e with e1 _; rw [e1]
  byValue:=fun k v h=>by
    rcases keyIs_shape h with ⟨i,t,rfl,rfl⟩ | ⟨x,t,rfl,rfl⟩ <;> rfl
  pyHash:=fun hv h=>by
    rcases keyIs_shape hv with ⟨i,t,rfl,rfl⟩ | ⟨x,t,rfl,rfl⟩
    · exact wpAny_pyHash_int h
    · exact wpAny_pyHash_str h
  eqBool:=fun hu hv h=>by
    rcases keyIs_shape hu with ⟨i,t,rfl,rfl⟩ | ⟨x,t,rfl,rfl⟩
    · rcases keyIs_shape hv with ⟨j,u,rfl,rfl⟩ | ⟨y,u,rfl,rfl⟩
      · rw [key_ll] at h; exact wpAny_eqBool_int h
      · rw [key_lr] at h; exact SeqAt.EqAt.int_str i t y u _ _ _ _ h
    · rcases keyIs_shape hv with ⟨j,u,rfl,rfl⟩ | ⟨y,u,rfl,rfl⟩
      · rw [key_rl] at h; exact SeqAt.EqAt.str_int x t j u _ _ _ _ h
      · rw [key_rr] at h; exact wpAny_eqBool_str h
  «strs»:=fun k x t v h=>by
    rcases keyIs_shape h with ⟨i,u,rfl,e⟩ | ⟨y,u,rfl,e⟩
    · exact nomatch e
    · injection e with e1 _
      subst e1
      cases v <;> rfl
theorem mixKind_int (prog : Program) (w : World) (i : Int) (t : Tok) : (mixKind prog w).is (.inl i) (.int i t) = true:=keyIs_int i t
theorem mixKind_str (prog : Program) (w : World) (x : Str) (t : Tok) : (mixKind prog w).is (.inr x) (.str x t) = true:=keyIs_str x t
end L2
namespace L2
open PySem PySem.Spec PyProof.Rows
inductive V where
  | non | bl (b : Bool) | int (i : Int) | str (x : Str) | byt (b : Array UInt8) | flt (b : UInt64) | ref (a : Addr) | ty (n : String)
  deriving DecidableEq
noncomputable def RelV : V→Value→Prop
  | .non,u=>u = Value.none
  | .bl b,u=>u = Value.bool b
  | .int i,u=>∃ t,u = Value.int i t
  | .str x,u=>∃ t,u = Value.str x t
  | .byt b,u=>∃ t,u = Value.bytes b t
  | .flt b,u=>∃ t,u = Value.float b t
  | .ref a,u=>u = Value.ref a
  | .ty n,u=>u = Value.type n
noncomputable abbrev Vals : List V→List Value→Prop:=Paired RelV
theorem Vals.length {xs : List V} {us : List Value} (r : Vals xs us) : xs.length = us.length:=Paired.length r
theorem Vals.get : ∀ {xs : List V} {us : List Value} {i : Nat} {x : V},Vals xs us→xs[i]? = some x→∃ u,us[i]? = some u∧RelV x u
  | _,_,_,_,.nil,e=>by simp at e
  | _,_,0,_,.cons r _,e=>by simp at e; subst e; exact ⟨_,rfl,r⟩
  | _,_,i + 1,x,.cons _ t,e=>by
    obtain ⟨u,h1,h2⟩:=Vals.get (i:=i) (x:=x) t (by simpa using e)
    exact ⟨u,by simpa using h1,h2⟩
theorem Vals.set {x : V} {u : Value} (r : RelV x u) : ∀ {xs : List V} {us : List Value} (i : Nat),Vals xs us→Vals (xs.set i x) (us.set i u)
  | _,_,_,.nil=>.nil
  | _,_,0,.cons _ t=>.cons r t
  | _,_,i + 1,.cons q t=>.cons q (Vals.set r i t)
theorem Vals.append : ∀ {xs ys : List V} {us ws : List Value},Vals xs us→Vals ys ws→Vals (xs++ys) (us++ws)
  | _,_,_,_,.nil,s=>s
  | _,_,_,_,.cons r t,s=>.cons r (Vals.append t s)
theorem Vals.take : ∀ {xs : List V} {us : List Value} (n : Nat),Vals xs us→Vals (xs.take n) (us.take n)
  | _,_,0,_=>.nil
  | _,_,_ + 1,.nil=>.nil
  | _,_,n + 1,.cons r t=>.cons r (Vals.take n t)
theorem Vals.drop : ∀ {xs : List V} {us : List Value} (n : Nat),Vals xs us→Vals (xs.drop n) (us.drop n)
  | _,_,0,r=>r
  | _,_,_ + 1,.nil=>.nil
  | _,_,n + 1,.cons _ t=>Vals.drop n t
noncomputable def RelO : Option V→Option Value→Prop
  | some v,some u=>RelV v u
  | none,none=>True
  | _,_=>False
noncomputable def KV {κ : Type} : List (κ × V)→List (κ × Value)→Prop:=Paired fun (p : κ × V) (q : κ × Value)=>p.1 = q.1∧RelV p.2 q.2
noncomputable def kV : Key→V
  | .inl i=>.int i
  | .inr x=>.str x
inductive HO where
  /-- a list -/
  | lst (xs : List V)
  /-- a tuple (never changes) -/
  | tup (xs : List V)
  /-- a dict whose keys are ints and texts; one whose keys are tuples of ints and texts (the empty one is both) -/
  | dK (kvs : List (Key × V)) | dT (kvs : List (List Key × V))
  /-- a set of ints: its members,its size -/
  | set (S : Int→Bool) (n : Nat)
  /-- an instance of the class at C,its dict at dx,its attributes -/
  | ins (C dx : Addr) (fs : List (Str × V))
  /-- the dict of the instance at x -/
  | own (x : Addr)
  /-- the dict of an exception -/
  | xd (fs : List (Str × V))
  /-- a bound method,f of x -/
  | met (f x : Addr)
  /-- a range object lo,lo + 1,.. below hi -/
  | rng (lo hi : Int)
  /-- a thing that is known to the object (the script; a dict while a loop walks it): read,never written while it is so -/
  | frz (o : Obj) (u : HO)
  /-- a code object's table -/
  | tbl (ps : Array Value)
  /-- any other thing,by what is true of its one object (a def of one's own: SetO a S n:=HO.ext fun h=>..) -/
  | ext (φ : Heap→Prop)
noncomputable abbrev Hp:=Addr→Option HO
noncomputable def upd (H : Hp) (a : Addr) (o : HO) : Hp:=fun b=>if b = a then some o else H b
theorem upd_same {H : Hp} {a : Addr} {o : HO} : upd H a o a = some o:=by unfold upd; rw [if_pos rfl]
theorem upd_ne {H : Hp} {a b : Addr} {o : HO} (h : b ≠ a) : upd H a o b = H b:=by unfold upd; rw [if_neg h]
theorem ne_of {H : Hp} {a b : Addr} {o u : HO} (h : H a = some o) (h' : H b = some u) (d : o ≠ u) : a ≠ b:=by
  intro e; subst e; rw [h] at h'; exact d (Option.some.inj h')
theorem ne_of_none {H : Hp} {a b : Addr} {o : HO} (h : H a = some o) (h' : H b = none) : a ≠ b:=by
  intro e; subst e; rw [h] at h'; cases h'
section
variable (P : Program) (w : World)
noncomputable def ObjOk (H : Hp) (h : Heap) (a : Addr) : HO→Prop
  | .lst xs=>xs.length ≤ sizeLine∧∃ (its : List Value) (n : Nat),Vals xs its∧h.get? a = some { cls:=.type "list",data:=.seq its.toArray n }
  | .tup xs=>xs.length ≤ sizeLine∧∃ its : List Value,Vals xs its∧IsTup h a its.toArray
  | .dK kvs=>kvs.length ≤ sizeLine∧(a == sysModules) = false∧∃ vs,KV kvs vs∧h.DictOf (mixKind P w) a vs
  | .dT kvs=>kvs.length ≤ sizeLine∧(a == sysModules) = false∧∃ xs : List (List Key × Addr × Value),
      Paired (fun (p : List Key × V) (q : List Key × Addr × Value)=>p.1 = q.1∧H q.2.1 = some (.tup (p.1.map kV))∧RelV p.2 q.2.2) kvs xs ∧
      ∃ o es ep,h.get? a = some o∧o.ExactDict∧o.data = .dict es ep∧es.toList = xs.map (entryOfKey (tupleKind (mixKind P w)))∧(xs.map (·.1)).Nodup
  | .set S n=>h.SetOf (intKind P w) a S n
  | .ins C dx fs=>H dx = some (.own a)∧fs.length ≤ 1000∧dx ≠ a∧h.get? a = some (PySem.W.instObj C dx) ∧
      ∃ mA,h.Ns1 dx mA∧(∀ f,RelO (fs.lookup f) (mA f))∧PySem.Within mA (fs.map (·.1))
  | .own _=>∃ o,h.get? a = some o
  | .xd fs=>∃ mA,h.Ns1 a mA∧∀ f,RelO (fs.lookup f) (mA f)
  | .rng lo hi=>∃ t u v,h.get? a = some { cls:=.type "range",data:=.fields #[.int lo t,.int hi u,.int 1 v] }
  | .frz o u=>h.get? a = some o∧ObjOk H h a u
  | .tbl ps=>h.get? a = some { cls:=.none,data:=.fields ps }
  | .met f x=>h.get? a = some (PySem.W.methodObj (.ref f) (.ref x))
  | .ext φ=>φ h∧(∃ o,h.get? a = some o)∧∀ h1 h2 : Heap,φ h1→(∀ o,h1.get? a = some o→h2.get? a = some o)→φ h2
noncomputable def HOk (H : Hp) (h : Heap) : Prop:=∀ a o,H a = some o→ObjOk P w H h a o
end
section
variable {P : Program} {w : World} {H H' : Hp} {h h' : Heap} {a : Addr} {o : HO}
theorem ObjOk.lt (x : ObjOk P w H h a o) : a < h.objs.size:=by
  cases o with
  | lst xs=>obtain ⟨_,_,_,_,e⟩:=x; exact Heap.lt_size e
  | tup xs=>obtain ⟨_,_,_,p⟩:=x; exact p.lt
  | dK kvs=>obtain ⟨_,_,_,_,o,_,_,e,_⟩:=x; exact Heap.lt_size e
  | dT kvs=>obtain ⟨_,_,_,_,o,_,_,e,_⟩:=x; exact Heap.lt_size e
  | set S n=>obtain ⟨o,_,_,_,e,_⟩:=x; exact Heap.lt_size e
  | ins C dx fs=>obtain ⟨_,_,_,e,_⟩:=x; exact Heap.lt_size e
  | own y=>obtain ⟨_,e⟩:=x; exact Heap.lt_size e
  | xd fs=>obtain ⟨_,⟨_,_,_,e,_⟩,_⟩:=x; exact Heap.lt_size e
  | rng lo hi=>obtain ⟨_,_,_,e⟩:=x; exact Heap.lt_size e
  | frz ob u=>obtain ⟨e,_⟩:=x; exact Heap.lt_size e
  | tbl ps=>exact Heap.lt_size (show h.get? a = some _ from x)
  | met f y=>exact Heap.lt_size (show h.get? a = some _ from x)
  | ext φ=>obtain ⟨_,⟨_,e⟩,_⟩:=x; exact Heap.lt_size e
theorem Paired.mapP {α β : Type} {F G : α→β→Prop} : ∀ {l₁ : List α} {l₂ : List β},Paired F l₁ l₂→(∀ a b,F a b→G a b)→Paired G l₁ l₂
  | _,_,.nil,_=>.nil
  | _,_,.cons r t,f=>.cons (f _ _ r) (Paired.mapP t f)
theorem ObjOk.stay (x : ObjOk P w H h a o) (k : ∀ b u,(b = a∨H b = some (.own a))→h.get? b = some u→h'.get? b = some u)
    (ho : ∀ b,H b = some (.own a)→H' b = some (.own a)) (ht : ∀ b xs,H b = some (.tup xs)→H' b = some (.tup xs)) : ObjOk P w H' h' a o:=by
  induction o with
  | lst xs=>obtain ⟨z,its,n,r,e⟩:=x; exact ⟨z,its,n,r,k _ _ (.inl rfl) e⟩
  | tup xs=>obtain ⟨z,its,r,ob,e,c⟩:=x; exact ⟨z,its,r,ob,k _ _ (.inl rfl) e,c⟩
  | dK kvs=>obtain ⟨z,y,vs,r,ob,es,ep,e,c⟩:=x; exact ⟨z,y,vs,r,ob,es,ep,k _ _ (.inl rfl) e,c⟩
  | dT kvs =>
    obtain ⟨z,y,xs,r,ob,es,ep,e,c⟩:=x
    exact ⟨z,y,xs,Paired.mapP r fun p q z=>⟨z.1,ht _ _ z.2.1,z.2.2⟩,ob,es,ep,k _ _ (.inl rfl) e,c⟩
  | set S n=>obtain ⟨ob,es,ep,t,e,c⟩:=x; exact ⟨ob,es,ep,t,k _ _ (.inl rfl) e,c⟩
  | ins C dx fs =>
    obtain ⟨d,z,ne,e,mA,⟨od,es,ep,e2,c⟩,r⟩:=x
    exact ⟨ho _ d,z,ne,k _ _ (.inl rfl) e,mA,⟨od,es,ep,k _ _ (.inr d) e2,c⟩,r⟩
  | own y=>obtain ⟨ob,e⟩:=x; exact ⟨ob,k _ _ (.inl rfl) e⟩
  | xd fs=>obtain ⟨mA,⟨od,es,ep,e,c⟩,r⟩:=x; exact ⟨mA,⟨od,es,ep,k _ _ (.inl rfl) e,c⟩,r⟩
  | rng lo hi=>obtain ⟨t,u,v,e⟩:=x; exact ⟨t,u,v,k _ _ (.inl rfl) e⟩
  | frz ob u ih=>obtain ⟨e,q⟩:=x; exact ⟨k _ _ (.inl rfl) e,ih q⟩
  | tbl ps =>
    have e : h.get? a = some { cls:=.none,data:=.fields ps }:=x
    show h'.get? a = some { cls:=.none,data:=.fields ps }
    exact k a _ (.inl rfl) e
  | met f y =>
    have e : h.get? a = some (PySem.W.methodObj (.ref f) (.ref y)):=x
    show h'.get? a = some (PySem.W.methodObj (.ref f) (.ref y))
    exact k a _ (.inl rfl) e
  | ext φ=>obtain ⟨p,⟨o,e⟩,st⟩:=x; exact ⟨st _ _ p fun o q=>k _ _ (.inl rfl) q,⟨o,k _ _ (.inl rfl) e⟩,st⟩
theorem HOk.lt (x : HOk P w H h) (e : H a = some o) : a < h.objs.size:=(x a o e).lt
theorem HOk.fresh (x : HOk P w H h) (e : h.objs.size ≤ a) : H a = none:=by
  cases q : H a with
  | none=>rfl
  | some u=>exact absurd (Nat.lt_of_lt_of_le (x.lt q) e) (Nat.lt_irrefl _)
theorem HOk.kept (x : HOk P w H h) (k : ∀ b u,h.get? b = some u→h'.get? b = some u) : HOk P w H h':=fun a o e =>
  (x a o e).stay (fun b u _ q=>k b u q) (fun _ q=>q) fun _ _ q=>q
theorem HOk.laid (x : HOk P w H h) (k : ∀ b u,h.get? b = some u→h'.get? b = some u) (hp : h.objs.size ≤ a) (new : ObjOk P w (upd H a o) h' a o) : HOk P w (upd H a o) h':=fun b u e=>by
  have hn:=x.fresh hp
  by_cases hb : b = a
  · subst hb; rw [upd_same] at e; cases e; exact new
  · rw [upd_ne hb] at e
    exact (x b u e).stay (fun c v _ q=>k c v q) (fun c q=>by rw [upd_ne (ne_of_none q hn)]; exact q) fun c xs q=>by rw [upd_ne (ne_of_none q hn)]; exact q
end
noncomputable def Rd (H : Hp) (a : Addr) (u : HO) : Prop:=H a = some u∨∃ o,H a = some (.frz o u)
theorem Rd.of {H : Hp} {a : Addr} {u : HO} (h : H a = some u) : Rd H a u:=.inl h
theorem Rd.ok {P : Program} {w : World} {H : Hp} {h : Heap} {a : Addr} {u : HO} (r : Rd H a u) (x : HOk P w H h) : ObjOk P w H h a u:=by
  rcases r with r | ⟨o,r⟩
  · exact x a u r
  · obtain ⟨_,q⟩:=x a _ r
    exact q
noncomputable def Mut : Option HO→Prop
  | some (.lst _)=>True
  | some (.dK _)=>True
  | some (.dT _)=>True
  | some (.set _ _)=>True
  | some (.ins _ _ _)=>True
  | some (.ext _)=>True
  | _=>False
section
variable {P : Program} {w : World} {H : Hp} {h h' : Heap} {x e : Addr} {o' : HO}
theorem HOk.write (ok : HOk P w H h) (mu : Mut (H x)) (he : e = x∨H e = some (.own x)) (k : ∀ b u,b ≠ e→h.get? b = some u→h'.get? b = some u) (heo : ∃ u,h'.get? e = some u)
    (new : ObjOk P w (upd H x o') h' x o') : HOk P w (upd H x o') h':=fun b u q=>by
  have nown : ∀ c y,H c = some (.own y)→c ≠ x:=fun c y r z=>by subst z; rw [r] at mu; exact mu
  have ntup : ∀ c xs,H c = some (.tup xs)→c ≠ x:=fun c xs r z=>by subst z; rw [r] at mu; exact mu
  by_cases hb : b = x
  · subst hb; rw [upd_same] at q; cases q; exact new
  · rw [upd_ne hb] at q
    by_cases hbe : b = e
    · have q' : H b = some (.own x):=by
        rcases he with z | z
        · exact absurd (hbe.trans z) hb
        · rw [hbe]; exact z
      rw [q] at q'; cases q'
      obtain ⟨v,hv⟩:=heo
      exact ⟨v,by rw [hbe]; exact hv⟩
    · refine (ok b u q).stay (fun c v hc r=>k c v ?_ r) (fun c r=>by rw [upd_ne (nown c b r)]; exact r) fun c xs r=>by rw [upd_ne (ntup c xs r)]; exact r
      rcases hc with rfl | hc
      · exact hbe
      · rintro rfl
        rcases he with z | z
        · exact nown c b hc z
        · rw [hc] at z; cases z; exact hb rfl
end
structure Un (fs ex : List Addr) (H H' : Hp) (h h' : Heap) : Prop where
  keep : ∀ b o,h.get? b = some o→H b = none→b ∉ fs→b ∉ ex→h'.get? b = some o
  slot : ∀ b o,h.get? b = some o→H b = none→b ∈ fs→b ∉ ex→∃ sl,h'.get? b = some { o with slots:=sl }
  free : ∀ b o,h.get? b = some o→H b = none→b ∉ ex→H' b = none
  there : ∀ b o,h.get? b = some o→b ∉ ex→∃ o',h'.get? b = some o'
  tups : ∀ b xs,H b = some (.tup xs)→H' b = some (.tup xs)
  frzs : ∀ b o u,H b = some (.frz o u)→H' b = some (.frz o u)
  tbls : ∀ b ps,H b = some (.tbl ps)→∃ more,H' b = some (.tbl (ps++more))
section
variable {fs fs' ex ex' : List Addr} {H H1 H2 : Hp} {h h1 h2 h' : Heap} {a x e : Addr} {o : HO}
theorem Un.any (u : Un fs ex H H1 h h1) {b : Addr} {ob : Obj} (q : h.get? b = some ob) (n : H b = none) (hx : b ∉ ex) : ∃ sl,h1.get? b = some { ob with slots:=sl }:=by
  by_cases hb : b ∈ fs
  · exact u.slot b ob q n hb hx
  · exact ⟨ob.slots,u.keep b ob q n hb hx⟩
theorem Un.trans (a : Un fs ex H H1 h h1) (b : Un fs ex H1 H2 h1 h2) : Un fs ex H H2 h h2 where
  keep:=fun c ob q n hc hx=>b.keep c ob (a.keep c ob q n hc hx) (a.free c ob q n hx) hc hx
  slot:=fun c ob q n hc hx=>by
    obtain ⟨sl,e1⟩:=a.slot c ob q n hc hx
    obtain ⟨sl',e2⟩:=b.slot c _ e1 (a.free c ob q n hx) hc hx
    exact ⟨sl',e2⟩
  free:=fun c ob q n hx=>by
    obtain ⟨o',e1⟩:=a.there c ob q hx
    exact b.free c o' e1 (a.free c ob q n hx) hx
  there:=fun c ob q hx=>by
    obtain ⟨o',e1⟩:=a.there c ob q hx
    exact b.there c o' e1 hx
  tups:=fun c xs q=>b.tups c xs (a.tups c xs q)
  frzs:=fun c ob xs q=>b.frzs c ob xs (a.frzs c ob xs q)
  tbls:=fun c ps q=>by
    obtain ⟨m1,e1⟩:=a.tbls c ps q
    obtain ⟨m2,e2⟩:=b.tbls c _ e1
    exact ⟨m1++m2,by rw [e2,Array.append_assoc]⟩
theorem Un.kept (k : ∀ b u,h.get? b = some u→h'.get? b = some u) : Un fs ex H H h h' :=
  ⟨fun b ob q _ _ _=>k b ob q,fun b ob q _ _ _=>⟨ob.slots,k b ob q⟩,fun _ _ _ n _=>n,fun b ob q _=>⟨ob,k b ob q⟩,fun _ _ q=>q,fun _ _ _ q=>q,fun _ ps q=>⟨#[],by rw [q]; simp⟩⟩
theorem Un.refl : Un fs ex H H h h:=Un.kept fun _ _ q=>q
theorem Un.laid (k : ∀ b u,h.get? b = some u→h'.get? b = some u) (hp : h.objs.size ≤ a) (hn : H a = none) : Un fs ex H (upd H a o) h h' where
  keep:=fun b u q _ _ _=>k b u q
  slot:=fun b u q _ _ _=>⟨u.slots,k b u q⟩
  free:=fun b u q n _=>by rw [upd_ne (Nat.ne_of_lt (Nat.lt_of_lt_of_le (Heap.lt_size q) hp))]; exact n
  there:=fun b u q _=>⟨u,k b u q⟩
  tups:=fun b xs q=>by rw [upd_ne (ne_of_none q hn)]; exact q
  frzs:=fun b u xs q=>by rw [upd_ne (ne_of_none q hn)]; exact q
  tbls:=fun b ps q=>⟨#[],by rw [upd_ne (ne_of_none q hn),q]; simp⟩
theorem Un.write (mu : Mut (H x)) (he : e = x∨H e = some (.own x)) (k : ∀ b u,b ≠ e→h.get? b = some u→h'.get? b = some u) (heo : ∃ u,h'.get? e = some u) : Un fs ex H (upd H x o) h h':=by
  have hx : ∀ b,H b = none→b ≠ x:=fun b n z=>by subst z; rw [n] at mu; exact mu
  have hb : ∀ b,H b = none→b ≠ e:=fun b n z=>by
    subst z
    rcases he with r | r
    · exact hx b n r
    · rw [n] at r; cases r
  have hm : ∀ b u,H b = some u→¬ Mut (some u)→b ≠ x:=fun b u q nm z=>by subst z; rw [q] at mu; exact nm mu
  refine ⟨fun b u q n _ _=>k b u (hb b n) q,fun b u q n _ _=>⟨u.slots,k b u (hb b n) q⟩,fun b u q n _=>by rw [upd_ne (hx b n)]; exact n,fun b u q _=>?_,
    fun b xs q=>by rw [upd_ne (hm b _ q fun z=>z)]; exact q,fun b u xs q=>by rw [upd_ne (hm b _ q fun z=>z)]; exact q,fun b ps q=>⟨#[],by rw [upd_ne (hm b _ q fun z=>z),q]; simp⟩⟩
  by_cases hbe : b = e
  · subst hbe; exact heo
  · exact ⟨u,k b u hbe q⟩
theorem Un.mono (u : Un fs ex H H1 h h1) (hs : ∀ b ∈ fs,b ∈ fs') (hx : ∀ b ∈ ex,b ∈ ex') : Un fs' ex' H H1 h h1 :=
  ⟨fun b ob q n hb he=>u.keep b ob q n (fun z=>hb (hs b z)) fun z=>he (hx b z),fun _ _ q n _ he=>u.any q n fun z=>he (hx _ z),fun b ob q n he=>u.free b ob q n fun z=>he (hx b z),fun b ob q he=>u.there b ob q fun z=>he (hx b z),u.tups,u.frzs,u.tbls⟩
end
noncomputable def trk (h : Heap) (H : Hp) : List Addr:=(List.range h.objs.size).filter fun a=>(H a).isSome
noncomputable def hidT (h : Heap) (H : Hp) : Heap:=PySem.W.hideAll h (trk h H)
theorem hidT_size (h : Heap) (H : Hp) : (hidT h H).objs.size = h.objs.size:=PySem.W.hideAll_size _ _
theorem hidT_get {h : Heap} {H : Hp} {b : Addr} {o : Obj} (e : h.get? b = some o) (n : H b = none) : (hidT h H).get? b = some o :=
  PySem.W.hideAll_get _ e fun hm=>by
    have q : (H b).isSome = true:=(List.mem_filter.mp hm).2
    rw [n] at q; simp at q
theorem of_hidT {h : Heap} {H : Hp} {b : Addr} {o : Obj} (e : (hidT h H).get? b = some o) : h.get? b = some o∧H b = none:=by
  have e' : h.get? b = some o:=PySem.W.of_hideAll (trk h H) e
  refine ⟨e',?_⟩
  cases q : H b with
  | none=>rfl
  | some x =>
    have hm : b ∈ trk h H:=List.mem_filter.mpr ⟨List.mem_range.mpr (Heap.lt_size e'),by simp [q]⟩
    have z : (hidT h H).get? b = none:=PySem.W.hideAll_none (trk h H) hm
    rw [z] at e; cases e
noncomputable def allNews (g h : Heap) (L : Addr) : List (Addr × Obj):=(List.range h.objs.size).filterMap fun a=>if a = L∨(g.get? a).isSome = true then none else (h.get? a).map fun o=>(a,o)
noncomputable def rest (g h : Heap) (L d : Addr) : List (Addr × Obj):=(allNews g h L).filter fun p=>decide (p.1 ≠ d)
end L2
namespace L2
open PySem PySem.Spec PyProof.Rows
structure Mod (K : PySem.W.Frag) (mg : Str→Option Value) (base : Heap) : Prop where
  kin : K.In base
  glob : base.Ns mainGlobals mg
  blt : ∃ mb,base.Ns builtinsNs mb∧∀ x : Str,x ≠ "__name__"→mb x = bootBuiltins x
  nolimit : base.NoLimit
structure Cx where
  prog : Program
  w : World
  K : PySem.W.Frag
  mg : Str→Option Value
  base : Heap
  A : Around
  N : List Str
  s₀ : Shared
  H₀ : Hp
  env : Env
  outer : List Env
  stack : List Env
  ex : List Addr
  fn : Str→Bool
  calm : Bool
  pn : List (Addr × Obj)
  xe : Value→Shared→Prop
noncomputable def frs (l : List Env) : List Addr:=l.filterMap (·.frame)
noncomputable abbrev Cx.fs (X : Cx) : List Addr:=frs X.outer
noncomputable def Vis (sc : Scope) (x : Str) : Prop:=sc.names.lookup x = some .local∨sc.names.lookup x = some .cell∨sc.names.lookup x = some .free
noncomputable def Loc (sc : Scope) (x : Str) : Prop:=sc.names.lookup x = some .local∨sc.names.lookup x = some .cell
noncomputable def Look (env : Env) (h : Heap) (m : Str→Option Value) (x : Str) (u : Value) : Prop :=
  (env.kindOf x = some .local∧m x = some u)∨((env.kindOf x = some .cell∨env.kindOf x = some .free)∧∃ c,env.cells.lookup x = some c∧h.IsCell c (some u))
structure Cx.Ok (X : Cx) : Prop where
  mod : Mod X.K X.mg X.base
  kind : X.env.scope.kind = .function
  glob : X.env.globals = mainGlobals
  blt : X.env.builtins = builtinsNs
  above : X.s₀.heap.objs.size ≤ X.env.locals
  inj : ∀ x y c,X.env.cells.lookup x = some c→X.env.cells.lookup y = some c→x = y
  has : ∀ x,(X.env.kindOf x = some .cell∨X.env.kindOf x = some .free)→∃ c,X.env.cells.lookup x = some c
  cab : ∀ x c,X.fn x = true→X.env.cells.lookup x = some c→X.s₀.heap.objs.size ≤ c
  hd : X.calm = true→X.A.handled = none
  frames : X.A.frames = some X.stack
  stk : X.stack = X.outer∨(X.stack = X.env::X.outer∧X.env.frame = some X.env.locals)
  exf : ∀ b ∈ X.ex,b ≠ X.env.locals∧∀ x c,X.env.cells.lookup x = some c→c ≠ b
  bs : ∀ b o,X.base.get? b = some o→X.s₀.heap.get? b = some o∧X.H₀ b = none
  bsz : X.base.objs.size ≤ X.s₀.heap.objs.size
  noex : ∀ b o,X.base.get? b = some o→b ∉ X.ex
  exfs : ∀ b ∈ X.ex,b ∉ X.fs
  funs : X.s₀.heap.FunFrames X.base X.outer
  frf : ∀ b ∈ X.fs,X.H₀ b = none
structure Inv (X : Cx) (pins : List (Addr × Obj)) (σ : List (Option V)) (H : Hp) (s : Shared) : Prop where
  ok : X.Ok
  os : s.os = X.s₀.os
  bare : AllBare s.gens
  base : Un X.fs X.ex X.H₀ H X.s₀.heap s.heap
  loc : ∃ m,s.heap.Ns X.env.locals m∧∀ (i : Nat) (x : Str) (v : V),X.N[i]? = some x→σ[i]? = some (some v)→Vis X.env.scope x→∃ u,RelV v u∧Look X.env s.heap m x u
  cell : ∀ x c,X.env.cells.lookup x = some c→∃ v,s.heap.IsCell c v
  free : H X.env.locals = none
  freeC : ∀ x c,X.env.cells.lookup x = some c→H c = none
  pin : ∀ p ∈ X.pn++pins,s.heap.get? p.1 = some p.2∧H p.1 = none∧p.1 ≠ X.env.locals∧p.1 ∉ X.fs∧∀ v,p.2.data ≠ .cell v
  hok : HOk X.prog X.w H s.heap
  len : σ.length = X.N.length
section
variable {X : Cx} {pins : List (Addr × Obj)} {σ : List (Option V)} {H H' : Hp} {s : Shared} {h' : Heap}
theorem Cx.Ok.nofr (ok : X.Ok) {b : Addr} {o : Obj} (e : X.base.get? b = some o) : b ∉ X.fs:=fun hb=>by
  have:=(ok.funs.mem hb).1
  rw [e] at this; cases this
theorem Inv.bs (I : Inv X pins σ H s) : ∀ b o,X.base.get? b = some o→s.heap.get? b = some o∧H b = none:=fun b o e =>
  ⟨I.base.keep b o (I.ok.bs b o e).1 (I.ok.bs b o e).2 (I.ok.nofr e) (I.ok.noex b o e),I.base.free b o (I.ok.bs b o e).1 (I.ok.bs b o e).2 (I.ok.noex b o e)⟩
theorem Inv.bk (I : Inv X pins σ H s) : ∀ b o,X.base.get? b = some o→s.heap.get? b = some o:=fun b o e=>(I.bs b o e).1
theorem Inv.mod (I : Inv X pins σ H s) : Mod X.K X.mg X.base:=I.ok.mod
theorem Inv.kIn (I : Inv X pins σ H s) : X.K.In s.heap:=I.ok.mod.kin.keeps I.bk
theorem Inv.nolimit (I : Inv X pins σ H s) : s.heap.NoLimit:=I.ok.mod.nolimit.keeps I.bk
theorem Inv.fr (I : Inv X pins σ H s) : ∃ m,Fr X.base X.env.locals s.heap m :=
  let ⟨m,hn,_⟩:=I.loc
  ⟨m,hn,I.bk,Nat.le_trans I.ok.bsz I.ok.above⟩
theorem Inv.lt (I : Inv X pins σ H s) : X.env.locals < s.heap.objs.size:=let ⟨_,hn,_⟩:=I.loc; hn.lt
theorem Inv.sz (I : Inv X pins σ H s) : X.s₀.heap.objs.size ≤ s.heap.objs.size:=Nat.le_trans I.ok.above (Nat.le_of_lt I.lt)
theorem Inv.nofs (I : Inv X pins σ H s) {a : Addr} (h : s.heap.objs.size ≤ a) : a ∉ X.fs:=fun hb=>by
  obtain ⟨_,o,ho,_⟩:=I.ok.funs.mem hb
  exact absurd (Nat.lt_of_lt_of_le (Heap.lt_size ho) (Nat.le_trans I.sz h)) (Nat.lt_irrefl _)
theorem Inv.cne (I : Inv X pins σ H s) : ∀ x c,X.env.cells.lookup x = some c→c ≠ X.env.locals:=fun x c e z=>by
  obtain ⟨v,o,ho,hd⟩:=I.cell x c e
  obtain ⟨m,⟨o',es,ep,ho',hd',_⟩,_⟩:=I.loc
  rw [z,ho'] at ho; cases ho; rw [hd'] at hd; cases hd
theorem Inv.funs (I : Inv X pins σ H s) : s.heap.FunFrames X.base X.outer:=by
  have all : ∀ (l : List Env),(∀ b ∈ frs l,b ∈ X.fs)→X.s₀.heap.FunFrames X.base l→s.heap.FunFrames X.base l:=by
    intro l
    induction l with
    | nil=>intro _ _; trivial
    | cons env r ih =>
      intro hs hl
      obtain ⟨hk,⟨L,o,hf,hn,ho,hd⟩,hr⟩:=hl
      have hL : L ∈ X.fs:=hs L (by unfold frs; rw [List.filterMap_cons,hf]; exact List.mem_cons_self)
      obtain ⟨sl,e⟩:=I.base.slot L o ho (I.ok.frf L hL) hL fun z=>I.ok.exfs L z hL
      exact ⟨hk,⟨L,_,hf,hn,e,hd⟩,ih (fun b hb=>hs b (by unfold frs; rw [List.filterMap_cons,hf]; exact List.mem_cons_of_mem _ hb)) hr⟩
  exact all X.outer (fun _ hb=>hb) I.ok.funs
theorem Inv.stack (I : Inv X pins σ H s) : s.heap.FunFrames X.base X.stack:=by
  rcases I.ok.stk with e | ⟨e,hf⟩
  · rw [e]; exact I.funs
  · rw [e]
    obtain ⟨m,hn,_⟩:=I.loc
    refine .cons (by rw [I.ok.kind]; decide) hf hn ?_ I.funs
    exact Heap.get?_none_of_le (Nat.le_trans I.ok.bsz I.ok.above)
theorem Inv.stkSub (I : Inv X pins σ H s) : ∀ b ∈ frs X.stack,b ∈ X.env.locals::X.fs:=fun b hb=>by
  rcases I.ok.stk with e | ⟨e,hf⟩
  · rw [e] at hb; exact List.mem_cons_of_mem _ hb
  · rw [e] at hb
    unfold frs at hb
    rw [List.filterMap_cons,hf] at hb
    exact hb
theorem Inv.stkFree (I : Inv X pins σ H s) : ∀ b ∈ frs X.stack,H b = none:=fun b hb=>by
  rcases List.mem_cons.mp (I.stkSub b hb) with e | hb
  · rw [e]; exact I.free
  · obtain ⟨_,o,ho,_⟩:=I.ok.funs.mem hb
    exact I.base.free b o ho (I.ok.frf b hb) fun z=>I.ok.exfs b z hb
theorem Inv.step {g' : Array GenState} {t' : Nat} {d' : Drawn} {ch : List Addr} (I : Inv X pins σ H s)
    (hch : ∀ b ∈ ch,(b ∈ X.ex∨X.s₀.heap.objs.size ≤ b)∧b ≠ X.env.locals∧(∀ x c,X.env.cells.lookup x = some c→c ≠ b)∧∀ p ∈ X.pn++pins,p.1 ≠ b)
    (keep : ∀ b o,b ≠ X.env.locals→b ∉ X.fs→b ∉ ch→s.heap.get? b = some o→H b = none→h'.get? b = some o)
    (slot : ∀ b o,b ≠ X.env.locals→b ∈ X.fs→b ∉ ch→s.heap.get? b = some o→H b = none→∃ sl,h'.get? b = some { o with slots:=sl }) (free : ∀ b o,b ∉ ch→s.heap.get? b = some o→H b = none→H' b = none)
    (there : ∀ b o,b ∉ ch→s.heap.get? b = some o→∃ o',h'.get? b = some o')
    (tups : ∀ b xs,H b = some (.tup xs)→H' b = some (.tup xs)) (frzs : ∀ b o u,H b = some (.frz o u)→H' b = some (.frz o u)) (tbls : ∀ b ps,H b = some (.tbl ps)→∃ more,H' b = some (.tbl (ps++more)))
    (ns : ∀ m,s.heap.Ns X.env.locals m→h'.Ns X.env.locals m) (hok : HOk X.prog X.w H' h') (hg : AllBare g') :
    Inv X pins σ H' { s with heap:=h',gens:=g',drawn:=d',toks:=t' }:=by
  have neL : ∀ b o,X.s₀.heap.get? b = some o→b ≠ X.env.locals:=fun b o e=>Nat.ne_of_lt (Nat.lt_of_lt_of_le (Heap.lt_size e) I.ok.above)
  have neC : ∀ b o,X.s₀.heap.get? b = some o→b ∉ X.ex→b ∉ ch:=fun b o e hx hb=>by
    rcases (hch b hb).1 with z | z
    · exact hx z
    · exact absurd (Nat.lt_of_lt_of_le (Heap.lt_size e) z) (Nat.lt_irrefl _)
  have cellK : ∀ x c,X.env.cells.lookup x = some c→∀ v,s.heap.IsCell c v→h'.IsCell c v:=fun x c e v ⟨o,ho,hd⟩=>by
    have nch : c ∉ ch:=fun z=>(hch c z).2.2.1 x c e rfl
    by_cases hc : c ∈ X.fs
    · obtain ⟨sl,q⟩:=slot c o (I.cne x c e) hc nch ho (I.freeC x c e)
      exact ⟨_,q,hd⟩
    · exact ⟨o,keep c o (I.cne x c e) hc nch ho (I.freeC x c e),hd⟩
  refine ⟨I.ok,I.os,hg,⟨fun b o e n hb hx=>?_,fun b o e n hb hx=>?_,fun b o e n hx=>?_,fun b o e hx=>?_,fun b xs e=>tups b xs (I.base.tups b xs e),fun b o xs e=>frzs b o xs (I.base.frzs b o xs e),fun b ps e=>?_⟩,?_,fun x c e=>?_,?_,fun x c e=>?_,fun p hp=>?_,hok,I.len⟩
  · exact keep b o (neL b o e) hb (neC b o e hx) (I.base.keep b o e n hb hx) (I.base.free b o e n hx)
  · obtain ⟨sl,e1⟩:=I.base.slot b o e n hb hx
    obtain ⟨sl',e2⟩:=slot b _ (neL b o e) hb (neC b o e hx) e1 (I.base.free b o e n hx)
    exact ⟨sl',e2⟩
  · obtain ⟨o',e1⟩:=I.base.there b o e hx
    exact free b o' (neC b o e hx) e1 (I.base.free b o e n hx)
  · obtain ⟨o',e1⟩:=I.base.there b o e hx
    exact there b o' (neC b o e hx) e1
  · obtain ⟨m1,e1⟩:=I.base.tbls b ps e
    obtain ⟨m2,e2⟩:=tbls b _ e1
    exact ⟨m1++m2,by rw [e2,Array.append_assoc]⟩
  · obtain ⟨m,hn,hl⟩:=I.loc
    refine ⟨m,ns m hn,fun i x v e1 e2 e3=>?_⟩
    obtain ⟨u,r,l⟩:=hl i x v e1 e2 e3
    refine ⟨u,r,?_⟩
    rcases l with l | ⟨k,c,e,z⟩
    · exact .inl l
    · exact .inr ⟨k,c,e,cellK x c e _ z⟩
  · obtain ⟨v,z⟩:=I.cell x c e
    exact ⟨v,cellK x c e v z⟩
  · obtain ⟨m,⟨o,_,_,ho,_⟩,_⟩:=I.loc
    exact free _ o (fun z=>(hch _ z).2.1 rfl) ho I.free
  · obtain ⟨v,o,ho,hd⟩:=I.cell x c e
    exact free c o (fun z=>(hch c z).2.2.1 x c e rfl) ho (I.freeC x c e)
  · obtain ⟨e,n,ne,nf,d⟩:=I.pin p hp
    have nch : p.1 ∉ ch:=fun z=>(hch p.1 z).2.2.2 p hp rfl
    exact ⟨keep p.1 p.2 ne nf nch e n,free p.1 p.2 nch e n,ne,nf,d⟩
theorem Inv.un {t' : Nat} (I : Inv X pins σ H s) (u : Un X.fs [] H H' s.heap h') (hok : HOk X.prog X.w H' h') : Inv X pins σ H' { s with heap:=h',toks:=t' }:=by
  obtain ⟨m,⟨o,es,ep,ho,r⟩,_⟩:=id I.loc
  obtain ⟨sl,hL⟩:=u.any ho I.free (by simp)
  exact I.step (g':=s.gens) (d':=s.drawn) (ch:=[]) (fun _ z=>nomatch z) (fun b o _ hb _ e n=>u.keep b o e n hb (by simp)) (fun b o _ hb _ e n=>u.slot b o e n hb (by simp)) (fun b o _ e n=>u.free b o e n (by simp)) (fun b o _ e=>u.there b o e (by simp)) u.tups u.frzs u.tbls (fun m' hm=>by
    obtain ⟨o',es',ep',ho',r'⟩:=hm
    rw [ho] at ho'; cases ho'
    exact ⟨_,es',ep',hL,r'⟩) hok I.bare
theorem Inv.call {g' : Array GenState} {t' : Nat} {d' : Drawn} {ch : List Addr} (I : Inv X pins σ H s) (u : Un (frs X.stack) ch H H' s.heap h') (hok : HOk X.prog X.w H' h') (hg : AllBare g')
    (hch : ∀ b ∈ ch,(b ∈ X.ex∨X.s₀.heap.objs.size ≤ b)∧b ≠ X.env.locals∧(∀ x c,X.env.cells.lookup x = some c→c ≠ b)∧∀ p ∈ X.pn++pins,p.1 ≠ b) :
    Inv X pins σ H' { s with heap:=h',gens:=g',drawn:=d',toks:=t' }:=by
  obtain ⟨m,⟨o,es,ep,ho,r⟩,_⟩:=id I.loc
  obtain ⟨sl,hL⟩:=u.any ho I.free fun z=>(hch _ z).2.1 rfl
  exact I.step (ch:=ch) hch (fun b o hL hb hc e n=>u.keep b o e n (fun z=>(List.mem_cons.mp (I.stkSub b z)).elim hL hb) hc) (fun b o _ _ hc e n=>u.any e n hc) (fun b o hc e n=>u.free b o e n hc) (fun b o hc e=>u.there b o e hc) u.tups u.frzs u.tbls (fun m' hm=>by
    obtain ⟨o',es',ep',ho',r'⟩:=hm
    rw [ho] at ho'; cases ho'
    exact ⟨_,es',ep',hL,r'⟩) hok hg
theorem Inv.turned {t' : Nat} {it : Addr} (I : Inv X pins σ H s) (k : ∀ b o,b ≠ it→s.heap.get? b = some o→h'.get? b = some o) (hn : H it = none) (hL : it ≠ X.env.locals)
    (h1 : it ∈ X.ex∨X.s₀.heap.objs.size ≤ it) (h2 : ∀ x c,X.env.cells.lookup x = some c→c ≠ it) (h3 : ∀ p ∈ X.pn++pins,p.1 ≠ it) : Inv X pins σ H { s with heap:=h',toks:=t' }:=by
  have nit : ∀ b u,H b = some u→b ≠ it:=fun b u e z=>by rw [z,hn] at e; cases e
  refine I.step (g':=s.gens) (d':=s.drawn) (ch:=[it]) (fun b hb=>?_) (fun b o _ _ hc e _=>k b o (fun z=>hc (by simp [z])) e) (fun b o _ _ hc e _=>⟨o.slots,k b o (fun z=>hc (by simp [z])) e⟩) (fun _ _ _ _ n=>n)
    (fun b o hc e=>⟨o,k b o (fun z=>hc (by simp [z])) e⟩) (fun _ _ e=>e) (fun _ _ _ e=>e) (fun b ps e=>⟨#[],by rw [e]; simp⟩) (fun m hm=>?_) (fun b u e=>?_) I.bare
  · have e : b = it:=by simpa using hb
    subst e
    exact ⟨h1,hL,h2,h3⟩
  · obtain ⟨o,es,ep,ho,r⟩:=hm
    exact ⟨o,es,ep,k _ o (Ne.symm hL) ho,r⟩
  · refine (I.hok b u e).stay (fun c v hc q=>k c v ?_ q) (fun _ q=>q) fun _ _ q=>q
    rcases hc with z | z
    · rw [z]; exact nit b u e
    · exact nit c _ z
theorem Inv.tok (I : Inv X pins σ H s) (t : Nat) : Inv X pins σ H { s with toks:=t }:=I.un (h':=s.heap) (t':=t) Un.refl I.hok
theorem Inv.kept {t' : Nat} (I : Inv X pins σ H s) (k : ∀ b u,s.heap.get? b = some u→h'.get? b = some u) : Inv X pins σ H { s with heap:=h',toks:=t' }:=I.un (Un.kept k) (I.hok.kept k)
theorem Inv.laid {a : Addr} {o : HO} {t' : Nat} (I : Inv X pins σ H s) (k : ∀ b u,s.heap.get? b = some u→h'.get? b = some u) (hp : s.heap.objs.size ≤ a) (new : ObjOk X.prog X.w (upd H a o) h' a o) :
    Inv X pins σ (upd H a o) { s with heap:=h',toks:=t' }:=I.un (Un.laid k hp (I.hok.fresh hp)) (I.hok.laid k hp new)
theorem Inv.write {x e : Addr} {o : HO} {t' : Nat} (I : Inv X pins σ H s) (mu : Mut (H x)) (he : e = x∨H e = some (.own x)) (k : ∀ b u,b ≠ e→s.heap.get? b = some u→h'.get? b = some u) (heo : ∃ u,h'.get? e = some u)
    (new : ObjOk X.prog X.w (upd H x o) h' x o) : Inv X pins σ (upd H x o) { s with heap:=h',toks:=t' }:=I.un (Un.write mu he k heo) (I.hok.write mu he k heo new)
theorem Inv.pins_of {pins' : List (Addr × Obj)} (I : Inv X pins σ H s) (h : ∀ p ∈ pins',s.heap.get? p.1 = some p.2∧H p.1 = none∧p.1 ≠ X.env.locals∧p.1 ∉ X.fs∧∀ v,p.2.data ≠ .cell v) : Inv X pins' σ H s :=
  ⟨I.ok,I.os,I.bare,I.base,I.loc,I.cell,I.free,I.freeC,fun p hp=>(List.mem_append.mp hp).elim (fun z=>I.pin p (List.mem_append_left _ z)) (h p),I.hok,I.len⟩
theorem nodup_ix {N : List Str} (hN : N.Nodup) {i j : Nat} {x : Str} (a : N[i]? = some x) (b : N[j]? = some x) : i = j:=by
  obtain ⟨h1,e1⟩:=List.getElem?_eq_some_iff.mp a
  obtain ⟨h2,e2⟩:=List.getElem?_eq_some_iff.mp b
  exact (List.getElem_inj hN).mp (e1.trans e2.symm)
theorem store_ok2 {M : Model} {A : Around} {E : Value→Shared→Prop} {i : Nat} {x : Str} {v : V} {u : Value} {Q : Unit→Shared→Prop} (I : Inv X pins σ H s) (hN : X.N.Nodup) (hi : X.N[i]? = some x) (hx : Loc X.env.scope x) (r : RelV v u)
    (h : ∀ s',Inv X pins (σ.set i (some v)) H s'→(∃ a,Heap.SameBut a s.heap s'.heap∧(a = X.env.locals∨X.env.cells.lookup x = some a))→Q () s') (hf : X.fn x = true∨X.env.scope.names.lookup x = some .local:=by first | exact .inl rfl | exact .inr rfl | assumption) : wpAny M A (storeName X.env x u) Q E s:=by
  obtain ⟨m,hn,hl⟩:=id I.loc
  have hcls : (X.env.scope.kind == .class || (X.env.scope.kind == .module && X.env.locals != X.env.globals)) = false:=by rw [I.ok.kind]; rfl
  have hiσ : i < σ.length:=by rw [I.len]; exact (List.getElem?_eq_some_iff.mp hi).1
  have cne:=I.cne
  have tracked : ∀ {a : Addr} {h' : Heap},(∃ o,s.heap.get? a = some o∧H a = none)→Heap.SameBut a s.heap h'→HOk X.prog X.w H h':=fun {a h'} ha hs b ob e=>by
    obtain ⟨_,_,hfree⟩:=ha
    refine (I.hok b ob e).stay (fun c w' hc q=>(hs.2 c ?_).trans q) (fun _ q=>q) fun _ _ q=>q
    rintro rfl
    rcases hc with rfl | hc
    · rw [hfree] at e; cases e
    · rw [hfree] at hc; cases hc
  rcases hx with hk | hk
  · refine wpAny_storeName_local hk hn (fun h' hn' hs=>?_) hcls
    obtain ⟨oL,_,_,hoL,_⟩:=id hn
    refine h _ ⟨I.ok,I.os,I.bare,⟨fun b o e n hb hx=>?_,fun b o e n hb hx=>?_,I.base.free,fun b o e hx=>?_,I.base.tups,I.base.frzs,I.base.tbls⟩,⟨_,hn',fun j y v' e1 e2 e3=>?_⟩,fun y c e=>?_,I.free,I.freeC,fun p hp=>?_,tracked ⟨oL,hoL,I.free⟩ hs,by simpa using I.len⟩ ⟨_,hs,.inl rfl⟩
    · exact (hs.2 b (Nat.ne_of_lt (Nat.lt_of_lt_of_le (Heap.lt_size e) I.ok.above))).trans (I.base.keep b o e n hb hx)
    · obtain ⟨sl,e1⟩:=I.base.slot b o e n hb hx
      exact ⟨sl,(hs.2 b (Nat.ne_of_lt (Nat.lt_of_lt_of_le (Heap.lt_size e) I.ok.above))).trans e1⟩
    · obtain ⟨o',e1⟩:=I.base.there b o e hx
      exact ⟨o',(hs.2 b (Nat.ne_of_lt (Nat.lt_of_lt_of_le (Heap.lt_size e) I.ok.above))).trans e1⟩
    · by_cases hj : j = i
      · subst hj
        rw [hi] at e1; cases e1
        rw [List.getElem?_set_self hiσ] at e2
        cases e2
        exact ⟨u,r,.inl ⟨hk,by simp⟩⟩
      · rw [List.getElem?_set_ne (Ne.symm hj)] at e2
        obtain ⟨u',r',q⟩:=hl j y v' e1 e2 e3
        refine ⟨u',r',?_⟩
        rcases q with ⟨k,e⟩ | ⟨k,c,e,z⟩
        · refine .inl ⟨k,?_⟩
          have : y ≠ x:=fun e=>hj (nodup_ix hN e1 (e ▸ hi))
          simp [this,e]
        · exact .inr ⟨k,c,e,z.sameBut hs (cne y c e)⟩
    · obtain ⟨w',z⟩:=I.cell y c e
      exact ⟨w',z.sameBut hs (cne y c e)⟩
    · obtain ⟨e,n,ne,nf,d⟩:=I.pin p hp
      exact ⟨(hs.2 p.1 ne).trans e,n,ne,nf,d⟩
  · have hfn : X.fn x = true:=by
      rcases hf with z | z
      · exact z
      · rw [z] at hk; cases hk
    obtain ⟨c,hc⟩:=I.ok.has x (.inl hk)
    obtain ⟨w',z⟩:=I.cell x c hc
    refine wpAny_storeName_cell I.ok.kind hk hc z (fun h' hc' hs=>?_)
    obtain ⟨oc,hoc,hocd⟩:=id z
    refine h { s with heap:=h' } ⟨I.ok,I.os,I.bare,⟨fun b o e n hb hx=>?_,fun b o e n hb hx=>?_,I.base.free,fun b o e hx=>?_,I.base.tups,I.base.frzs,I.base.tbls⟩,⟨m,hn.sameBut hs (Ne.symm (cne x c hc)),fun j y v' e1 e2 e3=>?_⟩,fun y c' e=>?_,I.free,I.freeC,fun p hp=>?_,tracked ⟨oc,hoc,I.freeC x c hc⟩ hs,by simpa using I.len⟩ ⟨c,hs,.inr hc⟩
    · exact (hs.2 b (Nat.ne_of_lt (Nat.lt_of_lt_of_le (Heap.lt_size e) (I.ok.cab x c hfn hc)))).trans (I.base.keep b o e n hb hx)
    · obtain ⟨sl,e1⟩:=I.base.slot b o e n hb hx
      exact ⟨sl,(hs.2 b (Nat.ne_of_lt (Nat.lt_of_lt_of_le (Heap.lt_size e) (I.ok.cab x c hfn hc)))).trans e1⟩
    · obtain ⟨o',e1⟩:=I.base.there b o e hx
      exact ⟨o',(hs.2 b (Nat.ne_of_lt (Nat.lt_of_lt_of_le (Heap.lt_size e) (I.ok.cab x c hfn hc)))).trans e1⟩
    · by_cases hj : j = i
      · subst hj
        rw [hi] at e1; cases e1
        rw [List.getElem?_set_self hiσ] at e2
        cases e2
        exact ⟨u,r,.inr ⟨.inl hk,c,hc,hc'⟩⟩
      · rw [List.getElem?_set_ne (Ne.symm hj)] at e2
        obtain ⟨u',r',q⟩:=hl j y v' e1 e2 e3
        refine ⟨u',r',?_⟩
        rcases q with q | ⟨k,c',e,z'⟩
        · exact .inl q
        · refine .inr ⟨k,c',e,z'.sameBut hs ?_⟩
          rintro rfl
          exact hj (nodup_ix hN e1 (I.ok.inj _ _ _ e hc ▸ hi))
    · by_cases hcc : c' = c
      · subst hcc; exact ⟨_,hc'⟩
      · obtain ⟨w2,z2⟩:=I.cell y c' e
        exact ⟨w2,z2.sameBut hs hcc⟩
    · obtain ⟨e,n,ne,nf,d⟩:=I.pin p hp
      refine ⟨(hs.2 p.1 ?_).trans e,n,ne,nf,d⟩
      intro q
      rw [q,hoc] at e
      have q' : oc = p.2:=Option.some.inj e
      exact d w' (by rw [← q']; exact hocd)
theorem store_ok {M : Model} {A : Around} {E : Value→Shared→Prop} {i : Nat} {x : Str} {v : V} {u : Value} {Q : Unit→Shared→Prop} (I : Inv X pins σ H s) (hN : X.N.Nodup) (hi : X.N[i]? = some x) (hx : Loc X.env.scope x) (r : RelV v u)
    (h : ∀ s',Inv X pins (σ.set i (some v)) H s'→Q () s') (hf : X.fn x = true∨X.env.scope.names.lookup x = some .local:=by first | exact .inl rfl | exact .inr rfl | assumption) : wpAny M A (storeName X.env x u) Q E s :=
  store_ok2 I hN hi hx r (fun s' I' _=>h s' I') hf
theorem Inv.call' {s' : Shared} {ch : List Addr} (I : Inv X pins σ H s) (ho : s'.os = s.os) (u : Un (frs X.stack) ch H H' s.heap s'.heap) (hok : HOk X.prog X.w H' s'.heap) (hg : AllBare s'.gens)
    (hch : ∀ b ∈ ch,(b ∈ X.ex∨X.s₀.heap.objs.size ≤ b)∧b ≠ X.env.locals∧(∀ x c,X.env.cells.lookup x = some c→c ≠ b)∧∀ p ∈ X.pn++pins,p.1 ≠ b) : Inv X pins σ H' s':=by
  obtain ⟨h',g',d',t',o'⟩:=s'
  have e : o' = s.os:=ho
  subst e
  exact I.call (g':=g') (t':=t') (d':=d') u hok hg hch
end
noncomputable abbrev XK:=Value→Option Addr→Hp→Prop
noncomputable abbrev St:=List (Option V)
noncomputable abbrev VK:=V→Hp→Prop
noncomputable abbrev TE:=St→Hp→VK→Prop
noncomputable abbrev TT:=St→Hp→(Bool→Hp→Prop)→Prop
noncomputable abbrev TA:=St→Hp→(List V→Hp→Prop)→Prop
structure Ends where
  nx : St→Hp→Prop
  rt : VK
  bk : St→Hp→Prop:=fun _ _=>False
  ct : St→Hp→Prop:=fun _ _=>False
noncomputable abbrev TS:=Ends→St→Hp→Prop
noncomputable def EP (X : Cx) (pins : List (Addr × Obj)) (σ : St) (Q : VK) (u : Value) (s' : Shared) : Prop:=∃ v H',Inv X pins σ H' s'∧RelV v u∧Q v H'
noncomputable def TP (X : Cx) (pins : List (Addr × Obj)) (σ : St) (Q : Bool→Hp→Prop) (b : Bool) (s' : Shared) : Prop:=∃ H',Inv X pins σ H' s'∧Q b H'
noncomputable def AP (X : Cx) (pins : List (Addr × Obj)) (σ : St) (Q : List V→Hp→Prop) (us : List Value) (s' : Shared) : Prop:=∃ vs H',Inv X pins σ H' s'∧Vals vs us∧Q vs H'
noncomputable def SP (X : Cx) (pins : List (Addr × Obj)) (D : Ends) (f : Flow) (s' : Shared) : Prop :=
  match f with
  | .next=>∃ σ' H',Inv X pins σ' H' s'∧D.nx σ' H'
  | .brk=>∃ σ' H',Inv X pins σ' H' s'∧D.bk σ' H'
  | .cont=>∃ σ' H',Inv X pins σ' H' s'∧D.ct σ' H'
  | .ret u=>∃ v σ' H',Inv X pins σ' H' s'∧RelV v u∧D.rt v H'
noncomputable def PE (X : Cx) (e : Expr) (t : TE) : Prop :=
  ∀ (pins : List (Addr × Obj)) (s : Shared) (σ : St) (H : Hp) (Q : VK),Inv X pins σ H s→t σ H Q→wpAny (model X.prog X.w) X.A (eval e X.env) (EP X pins σ Q) X.xe s
noncomputable def PT (X : Cx) (e : Expr) (t : TT) : Prop :=
  ∀ (pins : List (Addr × Obj)) (s : Shared) (σ : St) (H : Hp) (Q : Bool→Hp→Prop),Inv X pins σ H s→t σ H Q→wpAny (model X.prog X.w) X.A (isTrue e X.env (eval e X.env)) (TP X pins σ Q) X.xe s
noncomputable def PW (X : Cx) (e : Expr) (t : TT) : Prop :=
  ∀ (whole : Sem Value) (pins : List (Addr × Obj)) (s : Shared) (σ : St) (H : Hp) (Q : Bool→Hp→Prop),Inv X pins σ H s→t σ H Q→wpAny (model X.prog X.w) X.A (isTrue e X.env whole) (TP X pins σ Q) X.xe s
theorem PW.pt {X : Cx} {e : Expr} {t : TT} (h : PW X e t) : PT X e t:=h _
noncomputable def PA (X : Cx) (es : List Expr) (t : TA) : Prop :=
  ∀ (pos : Pos) (pins : List (Addr × Obj)) (s : Shared) (σ : St) (H : Hp) (Q : List V→Hp→Prop),Inv X pins σ H s→t σ H Q→wpAny (model X.prog X.w) X.A (spliced (backTo pos (starEach es X.env))) (AP X pins σ Q) X.xe s
noncomputable def PS (X : Cx) (st : Stmt) (t : TS) : Prop :=
  ∀ (pins : List (Addr × Obj)) (s : Shared) (σ : St) (H : Hp) (D : Ends),Inv X pins σ H s→t D σ H→wpAny (model X.prog X.w) X.A (exec st X.env) (SP X pins D) X.xe s
noncomputable def PSs (X : Cx) (st : List Stmt) (t : TS) : Prop :=
  ∀ (pins : List (Addr × Obj)) (s : Shared) (σ : St) (H : Hp) (D : Ends),Inv X pins σ H s→t D σ H→wpAny (model X.prog X.w) X.A (execs st X.env) (SP X pins D) X.xe s
theorem thn {α : Type} {t : Sem α} {Q Q' : α→Shared→Prop} {M : Model} {A : Around} {E : Value→Shared→Prop} {s : Shared} (h : wpAny M A t Q E s) (hQ : ∀ a s,Q a s→Q' a s) : wpAny M A t Q' E s:=wpAny_mono h hQ fun _ _ x=>x
end L2
namespace L2
open PySem PySem.Spec PyProof.Rows
section
variable {X : Cx}
theorem bin {a b : Expr} {ta tb : TE} (ha : PE X a ta) (hb : PE X b tb) {pins : List (Addr × Obj)} {s : Shared} {σ : St} {H : Hp} {R : V→V→Hp→Prop} (I : Inv X pins σ H s) (h : ta σ H fun x H1=>tb σ H1 fun y H2=>R x y H2)
    {α : Type} {Q : α→Shared→Prop} {f : Value→Value→Sem α}
    (hf : ∀ v u s2 x y H2,Inv X pins σ H2 s2→RelV x v→RelV y u→R x y H2→wpAny (model X.prog X.w) X.A (f v u) Q X.xe s2) :
    wpAny (model X.prog X.w) X.A (eval a X.env) (fun v s₁=>wpAny (model X.prog X.w) X.A (eval b X.env) (fun u s₂=>wpAny (model X.prog X.w) X.A (f v u) Q X.xe s₂) X.xe s₁) X.xe s:=by
  refine thn (ha pins s σ H _ I h) fun v s1 ⟨x,H1,I1,r1,q1⟩=>?_
  refine thn (hb pins s1 σ H1 _ I1 q1) fun u s2 ⟨y,H2,I2,r2,q2⟩=>?_
  exact hf v u s2 x y H2 I2 r1 r2 q2
noncomputable def tVar (i : Nat) : TE:=fun σ H Q=>∃ v,σ[i]? = some (some v)∧Q v H
noncomputable def tC (v : V) : TE:=fun _ H Q=>Q v H
theorem pe_var {i : Nat} {x : Str} {pos : Pos} (hN : X.N[i]? = some x) (hv : Vis X.env.scope x) (hd : (x == ("__debug__" : Str)) = false:=by decide) (hcd : (x == ("__classdict__" : Str)) = false:=by decide) : PE X (.Name x pos) (tVar i):=by
  intro pins s σ H Q I h
  obtain ⟨v,e,h⟩:=h
  obtain ⟨m,hn,hl⟩:=I.loc
  obtain ⟨u,r,l⟩:=hl i x v hN e hv
  have fin : EP X pins σ Q u s:=⟨v,H,I,r,h⟩
  rcases l with ⟨hk,hm⟩ | ⟨hk,c,hc,hcell⟩
  · exact wpAny_Name (wpAny_loadName_local I.ok.kind hk hn hm fin) hd
  · rcases hk with hk | hk
    · exact wpAny_Name (wpAny_loadName_cell I.ok.kind hk hc hcell fin) hd
    · exact wpAny_Name (wpAny_loadName_free I.ok.kind hk hc hcell fin hcd) hd
theorem pe_int {i j pos} : PE X (.Constant (.int i) j pos) (tC (.int i)):=fun _ _ _ H _ I h=>wpAny_Constant_int ⟨.int i,H,I.tok _,⟨_,rfl⟩,h⟩
theorem pe_bl {b j pos} : PE X (.Constant (.bool b) j pos) (tC (.bl b)):=fun _ _ _ H _ I h=>Constant_bool ⟨.bl b,H,I,rfl,h⟩
theorem pe_non {j pos} : PE X (.Constant .none j pos) (tC .non):=fun _ _ _ H _ I h=>Constant_none ⟨.non,H,I,rfl,h⟩
theorem pe_str {x j pos} : PE X (.Constant (.str x) j pos) (tC (.str x)):=fun _ _ _ H _ I h=>Calls.Constant_str ⟨.str x,H,I.tok _,⟨_,rfl⟩,h⟩
noncomputable def Gl (X : Cx) (x : Str) : Prop:=X.env.kindOf x = some .globalImplicit
theorem ld_glob {E : Value→Shared→Prop} {pins : List (Addr × Obj)} {s : Shared} {σ : St} {H : Hp} {x : Str} {u : Value} {pos : Pos} {Q : Value→Shared→Prop} (I : Inv X pins σ H s) (hg : Gl X x) (hm : X.mg x = some u) (h : Q u s)
    (hd : (x == ("__debug__" : Str)) = false:=by decide) : wpAny (model X.prog X.w) X.A (eval (.Name x pos) X.env) Q E s :=
  Calls.Name_function_global I.ok.kind hg (Calls.loadGlobal_global (by rw [I.ok.glob]; exact I.mod.glob.keeps I.bk) hm h) hd
theorem ld_blt {E : Value→Shared→Prop} {pins : List (Addr × Obj)} {s : Shared} {σ : St} {H : Hp} {x : Str} {u : Value} {pos : Pos} {Q : Value→Shared→Prop} (I : Inv X pins σ H s) (hg : Gl X x) (hm : X.mg x = none) (hv : bootBuiltins x = some u) (h : Q u s)
    (hn : x ≠ "__name__":=by decide) (hd : (x == ("__debug__" : Str)) = false:=by decide) : wpAny (model X.prog X.w) X.A (eval (.Name x pos) X.env) Q E s:=by
  obtain ⟨mb,h1,h2⟩:=I.mod.blt
  exact Calls.Name_function_global I.ok.kind hg (Calls.loadGlobal_builtin (by rw [I.ok.glob]; exact I.mod.glob.keeps I.bk) hm (by rw [I.ok.blt]; exact h1.keeps I.bk) ((h2 x hn).trans hv) h) hd
theorem pe_glob {x : Str} {v : V} {u : Value} {pos : Pos} (hg : Gl X x) (hm : X.mg x = some u) (r : RelV v u) (hd : (x == ("__debug__" : Str)) = false:=by decide) : PE X (.Name x pos) (tC v) :=
  fun _ _ _ H _ I h=>ld_glob I hg hm ⟨v,H,I,r,h⟩ hd
theorem pe_bltn {x : Str} {v : V} {u : Value} {pos : Pos} (hg : Gl X x) (hm : X.mg x = none) (hv : bootBuiltins x = some u) (r : RelV v u) (hn : x ≠ "__name__":=by decide) (hd : (x == ("__debug__" : Str)) = false:=by decide) : PE X (.Name x pos) (tC v) :=
  fun _ _ _ H _ I h=>ld_blt I hg hm hv ⟨v,H,I,r,h⟩ hn hd
variable {a b : Expr} {ta tb : TE} {pos : Pos}
noncomputable def PC (X : Cx) (op : CmpOp) (a b : Expr) (t : TE) : Prop :=
  ∀ (pins : List (Addr × Obj)) (s : Shared) (σ : St) (H : Hp) (Q : VK),Inv X pins σ H s→t σ H Q →
    wpAny (model X.prog X.w) X.A (eval a X.env) (fun v s₁=>wpAny (model X.prog X.w) X.A (eval b X.env) (fun u s₂=>wpAny (model X.prog X.w) X.A (compareOp op v u) (EP X pins σ Q) X.xe s₂) X.xe s₁) X.xe s
theorem nobehind (b : Expr) {op : CmpOp} (h : op ≠ .In) (h2 : op ≠ .NotIn) : behindInMarks op b = false:=by
  have e1 : (op == CmpOp.In) = false:=by cases op <;> first | rfl | exact absurd rfl h
  have e2 : (op == CmpOp.NotIn) = false:=by cases op <;> first | rfl | exact absurd rfl h2
  cases b <;> simp [behindInMarks,e1,e2]
noncomputable def tB (t : TE) : TT:=fun σ H Q=>t σ H fun x H1=>∃ c,x = .bl c∧Q c H1
theorem pe_cmp {op : CmpOp} {t : TE} (h : PC X op a b t) (h1 : behindInMarks op b = false:=by first | exact nobehind _ (by decide) (by decide) | rfl) : PE X (.Compare a [op] [b] pos) t:=fun pins s σ H Q I hw=>wpAny_Compare1 (h pins s σ H Q I hw) h1
theorem pt_cmp {op : CmpOp} {t : TE} (h : PC X op a b t) (h1 : behindInMarks op b = false:=by first | exact nobehind _ (by decide) (by decide) | rfl) : PT X (.Compare a [op] [b] pos) (tB t):=by
  intro pins s σ H Q I hw
  refine wpAny_isTrue_Compare1 (thn (h pins s σ H _ I hw) fun v s1 h1=>thn h1 fun u s2 h2=>thn h2 fun c s3 ⟨x,H1,I1,r1,q1⟩=>?_) h1
  obtain ⟨d,rfl,q⟩:=q1
  cases r1
  exact wpAny_truthy_bool ⟨H1,I1,q⟩
variable {tA tB' : TT} {rest : List Expr}
noncomputable def tAnd (t u : TT) : TT:=fun σ H Q=>t σ H fun c H1=>if c = true then u σ H1 Q else Q false H1
noncomputable def tOr (t u : TT) : TT:=fun σ H Q=>t σ H fun c H1=>if c = true then Q true H1 else u σ H1 Q
noncomputable def tNot (t : TT) : TT:=fun σ H Q=>t σ H fun c H1=>Q (!c) H1
theorem pw_and1 (ha : PT X a tA) : PW X (.BoolOp .And [a] pos) tA:=by
  intro wh pins s σ H Q I h
  refine isTrue_and (thn (ha pins s σ H Q I h) fun c s1 e=>?_)
  cases c with
  | true=>exact isTrue_and_nil e
  | false=>exact e
theorem pw_or1 (ha : PT X a tA) : PW X (.BoolOp .Or [a] pos) tA:=by
  intro wh pins s σ H Q I h
  refine isTrue_or (thn (ha pins s σ H Q I h) fun c s1 e=>?_)
  cases c with
  | false=>exact isTrue_or_nil e
  | true=>exact e
theorem pw_and (ha : PT X a tA) (hb : PW X (.BoolOp .And (b::rest) pos) tB') : PW X (.BoolOp .And (a::b::rest) pos) (tAnd tA tB'):=by
  intro wh pins s σ H Q I h
  refine isTrue_and (thn (ha pins s σ H _ I h) fun c s1 ⟨H1,I1,q1⟩=>?_)
  cases c with
  | true=>exact hb wh pins s1 σ H1 Q I1 q1
  | false=>exact ⟨H1,I1,q1⟩
theorem pw_or (ha : PT X a tA) (hb : PW X (.BoolOp .Or (b::rest) pos) tB') : PW X (.BoolOp .Or (a::b::rest) pos) (tOr tA tB'):=by
  intro wh pins s σ H Q I h
  refine isTrue_or (thn (ha pins s σ H _ I h) fun c s1 ⟨H1,I1,q1⟩=>?_)
  cases c with
  | true=>exact ⟨H1,I1,q1⟩
  | false=>exact hb wh pins s1 σ H1 Q I1 q1
theorem pt_not (ha : PT X a tA) : PT X (.UnaryOp .Not a pos) (tNot tA):=by
  intro pins s σ H Q I h
  exact isTrue_not (ha pins s σ H (fun c H1=>Q (!c) H1) I h)
noncomputable def tAndV (ta tb : TE) : TE:=fun σ H Q=>ta σ H fun x H1=>∃ c,x = .bl c∧if c = true then tb σ H1 Q else Q (.bl false) H1
noncomputable def tOrV (ta tb : TE) : TE:=fun σ H Q=>ta σ H fun x H1=>∃ c,x = .bl c∧if c = true then Q (.bl true) H1 else tb σ H1 Q
noncomputable def tNotV (ta : TE) : TE:=fun σ H Q=>ta σ H fun x H1=>∃ c,x = .bl c∧Q (.bl (!c)) H1
theorem pe_one {op} {t : TE} (h : PE X a t) : PE X (.BoolOp op [a] pos) t:=fun pins s σ H Q I hw=>BoolOp_one (h pins s σ H Q I hw)
theorem pe_and (ha : PE X a ta) (hb : PE X (.BoolOp .And (b::rest) pos) tb) : PE X (.BoolOp .And (a::b::rest) pos) (tAndV ta tb):=by
  intro pins s σ H Q I h
  refine BoolOp_and (thn (ha pins s σ H _ I h) fun v s1 ⟨x,H1,I1,r1,q1⟩=>?_)
  obtain ⟨c,rfl,q1⟩:=q1
  cases r1
  refine wpAny_truthy_bool ?_
  cases c with
  | true=>exact hb pins s1 σ H1 Q I1 q1
  | false=>exact ⟨.bl false,H1,I1,rfl,q1⟩
theorem pe_or (ha : PE X a ta) (hb : PE X (.BoolOp .Or (b::rest) pos) tb) : PE X (.BoolOp .Or (a::b::rest) pos) (tOrV ta tb):=by
  intro pins s σ H Q I h
  refine BoolOp_or (thn (ha pins s σ H _ I h) fun v s1 ⟨x,H1,I1,r1,q1⟩=>?_)
  obtain ⟨c,rfl,q1⟩:=q1
  cases r1
  refine wpAny_truthy_bool ?_
  cases c with
  | false=>exact hb pins s1 σ H1 Q I1 q1
  | true=>exact ⟨.bl true,H1,I1,rfl,q1⟩
theorem pe_not (ha : PE X a ta) : PE X (.UnaryOp .Not a pos) (tNotV ta):=by
  intro pins s σ H Q I h
  refine UnaryOp_ (thn (ha pins s σ H _ I h) fun v s1 ⟨x,H1,I1,r1,q1⟩=>?_)
  obtain ⟨c,rfl,q1⟩:=q1
  cases r1
  exact not_of (wpAny_truthy_bool ⟨.bl (!c),H1,I1,rfl,q1⟩)
noncomputable def tIf (t : TT) (ta tb : TE) : TE:=fun σ H Q=>t σ H fun c H1=>if c = true then ta σ H1 Q else tb σ H1 Q
theorem pe_ifExp {c : Expr} (hc : PT X c tA) (ha : PE X a ta) (hb : PE X b tb) : PE X (.IfExp c a b pos) (tIf tA ta tb):=by
  intro pins s σ H Q I h
  refine wpAny_IfExp (thn (hc pins s σ H _ I h) fun d s1 ⟨H1,I1,q1⟩=>?_)
  cases d with
  | true=>exact ha pins s1 σ H1 Q I1 q1
  | false=>exact hb pins s1 σ H1 Q I1 q1
end
end L2
namespace L2
open PySem PySem.Spec PyProof.Rows
noncomputable def SqL (K : PySem.W.Frag) (H : Hp) (a : Addr) (xs : List V) : Prop :=
  Rd H a (.lst xs) ∨
    ∃ (o : Obj) (its : Array Value) (n : Nat),K.lookup a = some o∧o.cls = .type "list"∧o.dict = none∧o.data = .seq its n∧its.size ≤ sizeLine∧Vals xs its.toList
noncomputable def SqT (K : PySem.W.Frag) (H : Hp) (a : Addr) (xs : List V) : Prop :=
  Rd H a (.tup xs) ∨
    ∃ (o : Obj) (its : Array Value) (n : Nat),K.lookup a = some o∧o.cls = .type "tuple"∧o.data = .seq its n∧its.size ≤ sizeLine∧Vals xs its.toList
noncomputable def absV : Value→Option V
  | .none=>some .non
  | .bool b=>some (.bl b)
  | .int i _=>some (.int i)
  | .str x _=>some (.str x)
  | .bytes b _=>some (.byt b)
  | .float b _=>some (.flt b)
  | .ref a=>some (.ref a)
  | .type n=>some (.ty n)
  | _=>none
theorem RelV.abs {x : V} {u : Value} (r : RelV x u) : absV u = some x:=by
  cases x with
  | non=>cases r; rfl
  | bl _=>cases r; rfl
  | int _=>obtain ⟨t,rfl⟩:=r; rfl
  | str _=>obtain ⟨t,rfl⟩:=r; rfl
  | byt _=>obtain ⟨t,rfl⟩:=r; rfl
  | flt _=>obtain ⟨t,rfl⟩:=r; rfl
  | ref _=>cases r; rfl
  | ty _=>cases r; rfl
theorem RelV.inj {x y : V} {u : Value} (r : RelV x u) (q : RelV y u) : x = y:=Option.some.inj (r.abs.symm.trans q.abs)
theorem Vals.inj : ∀ {xs ys : List V} {us : List Value},Vals xs us→Vals ys us→xs = ys
  | _,_,_,.nil,.nil=>rfl
  | _,_,_,.cons r t,.cons r' t'=>by rw [r.inj r',Vals.inj t t']
section
variable {X : Cx} {pins : List (Addr × Obj)} {σ : St} {H : Hp} {s : Shared} {a : Addr} {xs ys : List V}
theorem SqL.of {K : PySem.W.Frag} (h : H a = some (.lst xs)) : SqL K H a xs:=.inl (.inl h)
theorem SqT.of {K : PySem.W.Frag} (h : H a = some (.tup xs)) : SqT K H a xs:=.inl (.inl h)
theorem Inv.list (I : Inv X pins σ H s) (h : SqL X.K H a xs) : ∃ its : List Value,Vals xs its∧PlainL s.heap a its.toArray∧xs.length ≤ sizeLine:=by
  rcases h with h | ⟨o,its,n,hk,hc,hd,hs,hz,r⟩
  · obtain ⟨z,its,n,r,e⟩:=h.ok I.hok
    exact ⟨its,r,⟨_,n,e,rfl,rfl,rfl⟩,z⟩
  · refine ⟨its.toList,r,⟨o,n,I.kIn a o hk,hc,hd,by simpa using hs⟩,?_⟩
    have e:=r.length
    simp only [Array.length_toList] at e
    omega
theorem Inv.tuple (I : Inv X pins σ H s) (h : SqT X.K H a xs) : ∃ its : List Value,Vals xs its∧IsTup s.heap a its.toArray∧xs.length ≤ sizeLine:=by
  rcases h with h | ⟨o,its,n,hk,hc,hs,hz,r⟩
  · obtain ⟨z,its,r,p⟩:=h.ok I.hok
    exact ⟨its,r,p,z⟩
  · refine ⟨its.toList,r,⟨o,I.kIn a o hk,hc,n,by simpa using hs⟩,?_⟩
    have e:=r.length
    simp only [Array.length_toList] at e
    omega
theorem Inv.list_inj (I : Inv X pins σ H s) (h : SqL X.K H a xs) (h' : SqL X.K H a ys) : xs = ys:=by
  obtain ⟨its,r,⟨o,n,e,_,_,d⟩,_⟩:=I.list h
  obtain ⟨its',r',⟨o',n',e',_,_,d'⟩,_⟩:=I.list h'
  rw [e] at e'; cases e'
  rw [d] at d'
  injection d' with d1 _
  have : its = its':=by simpa using congrArg Array.toList d1
  subst this
  exact r.inj r'
theorem Inv.tuple_inj (I : Inv X pins σ H s) (h : SqT X.K H a xs) (h' : SqT X.K H a ys) : xs = ys:=by
  obtain ⟨its,r,⟨o,e,_,n,d⟩,_⟩:=I.tuple h
  obtain ⟨its',r',⟨o',e',_,n',d'⟩,_⟩:=I.tuple h'
  rw [e] at e'; cases e'
  rw [d] at d'
  injection d' with d1 _
  have : its = its':=by simpa using congrArg Array.toList d1
  subst this
  exact r.inj r'
end
noncomputable abbrev Cx.wish (X : Cx) (E : Value→Shared→Prop) : Cx:={ X with xe:=E }
noncomputable abbrev Cx.nox (X : Cx) : Cx:=X.wish fun _ _=>False
theorem Cx.Ok.wish {X : Cx} (ok : X.Ok) (E : Value→Shared→Prop) : (X.wish E).Ok :=
  ⟨ok.mod,ok.kind,ok.glob,ok.blt,ok.above,ok.inj,ok.has,ok.cab,ok.hd,ok.frames,ok.stk,ok.exf,ok.bs,ok.bsz,ok.noex,ok.exfs,ok.funs,ok.frf⟩
theorem Cx.Ok.unwish {X : Cx} {E : Value→Shared→Prop} (ok : (X.wish E).Ok) : X.Ok :=
  ⟨ok.mod,ok.kind,ok.glob,ok.blt,ok.above,ok.inj,ok.has,ok.cab,ok.hd,ok.frames,ok.stk,ok.exf,ok.bs,ok.bsz,ok.noex,ok.exfs,ok.funs,ok.frf⟩
section
variable {X : Cx} {pins : List (Addr × Obj)} {σ : St} {H : Hp} {s : Shared} {E : Value→Shared→Prop}
theorem Inv.wish (I : Inv X pins σ H s) (E : Value→Shared→Prop) : Inv (X.wish E) pins σ H s:=⟨I.ok.wish E,I.os,I.bare,I.base,I.loc,I.cell,I.free,I.freeC,I.pin,I.hok,I.len⟩
theorem Inv.unwish (I : Inv (X.wish E) pins σ H s) : Inv X pins σ H s:=⟨I.ok.unwish,I.os,I.bare,I.base,I.loc,I.cell,I.free,I.freeC,I.pin,I.hok,I.len⟩
theorem SP.unwish {D : Ends} {f : Flow} {s' : Shared} (h : SP (X.wish E) pins D f s') : SP X pins D f s':=by
  cases f with
  | next=>obtain ⟨σ',H',I,q⟩:=h; exact ⟨σ',H',I.unwish,q⟩
  | brk=>obtain ⟨σ',H',I,q⟩:=h; exact ⟨σ',H',I.unwish,q⟩
  | cont=>obtain ⟨σ',H',I,q⟩:=h; exact ⟨σ',H',I.unwish,q⟩
  | ret u=>obtain ⟨v,σ',H',I,r,q⟩:=h; exact ⟨v,σ',H',I.unwish,r,q⟩
theorem PE.nox {e : Expr} {t : TE} (h : PE X.nox e t) : PE X e t:=fun pins s σ H Q I hw =>
  wpAny_mono (h pins s σ H Q (I.wish _) hw) (fun _ _ ⟨v,H',I',r,q⟩=>⟨v,H',I'.unwish,r,q⟩) fun _ _ z=>False.elim z
theorem PT.nox {e : Expr} {t : TT} (h : PT X.nox e t) : PT X e t:=fun pins s σ H Q I hw =>
  wpAny_mono (h pins s σ H Q (I.wish _) hw) (fun _ _ ⟨H',I',q⟩=>⟨H',I'.unwish,q⟩) fun _ _ z=>False.elim z
theorem PSs.nox {st : List Stmt} {t : TS} (h : PSs X.nox st t) : PSs X st t:=fun pins s σ H D I hw =>
  wpAny_mono (h pins s σ H D (I.wish _) hw) (fun _ _ q=>q.unwish) fun _ _ z=>False.elim z
end
section
variable {X : Cx} {st : Stmt} {rest : List Stmt} {t u : TS} {e : Expr} {te : TE} {pos : Pos}
noncomputable def tNext : TS:=fun D σ H=>D.nx σ H
noncomputable def tSeq (t u : TS) : TS:=fun D σ H=>t { D with nx:=u D } σ H
theorem pss_nil : PSs X [] tNext:=fun _ _ σ H _ I h=>wpAny_execs_nil ⟨σ,H,I,h⟩
theorem pss_cons (h1 : PS X st t) (h2 : PSs X rest u) : PSs X (st::rest) (tSeq t u):=by
  intro pins s σ H D I h
  refine wpAny_execs_cons (thn (h1 pins s σ H { D with nx:=u D } I h) fun f s1 q=>?_)
  cases f with
  | next =>
    obtain ⟨σ',H',I',q⟩:=q
    exact h2 pins s1 σ' H' D I' q
  | ret v=>exact q
  | brk=>exact q
  | cont=>exact q
theorem Inv.quiet {pins : List (Addr × Obj)} {σ : St} {H : Hp} {s : Shared} (I : Inv X pins σ H s) : interactive X.env = false:=by simp [interactive,I.ok.kind]
theorem ps_doc {x j pos pos'} : PS X (.Expr (.Constant (.str x) j pos) pos') tNext:=fun _ s σ H _ I h=>wpAny_Expr (Calls.Constant_str (show SP X _ _ .next { s with toks:=s.toks + 1 } from ⟨σ,H,I.tok _,h⟩)) I.quiet
noncomputable def tDrop (te : TE) : TS:=fun D σ H=>te σ H fun _ H1=>D.nx σ H1
theorem ps_expr (he : PE X e te) (hs : swapsWith e none pos.line X.env = pure false:=by rfl) : PS X (.Expr e pos) (tDrop te):=by
  intro pins s σ H D I h
  exact wpAny_Expr_any (thn (he pins s σ H _ I h) fun v s1 ⟨x,H1,I1,r1,q1⟩=>⟨σ,H1,I1,q1⟩) I.quiet hs
noncomputable def tRet (te : TE) : TS:=fun D σ H=>te σ H D.rt
theorem ps_ret (he : PE X e te) : PS X (.Return (some e) pos) (tRet te):=by
  intro pins s σ H D I h
  exact wpAny_Return_some (thn (he pins s σ H _ I h) fun v s1 ⟨x,H1,I1,r1,q1⟩=>⟨x,σ,H1,I1,r1,q1⟩)
noncomputable def tIfS (c : TT) (t u : TS) : TS:=fun D σ H=>c σ H fun b H1=>if b = true then t D σ H1 else u D σ H1
theorem ps_if {c : Expr} {a b : List Stmt} {tc : TT} (hc : PT X c tc) (ha : PSs X a t) (hb : PSs X b u) : PS X (.If c a b pos) (tIfS tc t u):=by
  intro pins s σ H D I h
  refine wpAny_If (thn (hc pins s σ H _ I h) fun d s1 ⟨H1,I1,q1⟩=>?_)
  cases d with
  | true=>exact ha pins s1 σ H1 D I1 q1
  | false=>exact hb pins s1 σ H1 D I1 q1
end
noncomputable abbrev TG:=V→St→Hp→(St→Hp→Prop)→Prop
noncomputable abbrev TGs:=List V→St→Hp→(St→Hp→Prop)→Prop
noncomputable def PG (X : Cx) (target : Expr) (t : TG) : Prop :=
  ∀ (pins : List (Addr × Obj)) (s : Shared) (σ : St) (H : Hp) (v : V) (u : Value) (Q : St→Hp→Prop),Inv X pins σ H s→RelV v u→t v σ H Q →
    wpAny (model X.prog X.w) X.A (assign target X.env u) (fun _ s'=>∃ σ' H',Inv X pins σ' H' s'∧Q σ' H') X.xe s
noncomputable def PGs (X : Cx) (ts : List Expr) (t : TGs) : Prop :=
  ∀ (pins : List (Addr × Obj)) (s : Shared) (σ : St) (H : Hp) (vs : List V) (us : List Value) (Q : St→Hp→Prop),Inv X pins σ H s→Vals vs us→t vs σ H Q →
    wpAny (model X.prog X.w) X.A (assignInOrder ((assignEach ts X.env).map (·.2)) us) (fun _ s'=>∃ σ' H',Inv X pins σ' H' s'∧Q σ' H') X.xe s
section
variable {X : Cx} {pos : Pos}
noncomputable def gName (i : Nat) : TG:=fun v σ H Q=>Q (σ.set i (some v)) H
theorem pg_name {i : Nat} {x : Str} (hN : X.N.Nodup) (hi : X.N[i]? = some x) (hx : Loc X.env.scope x) (hf : X.fn x = true∨X.env.scope.names.lookup x = some .local:=by first | exact .inl rfl | exact .inr rfl | assumption) : PG X (.Name x pos) (gName i):=by
  intro pins s σ H v u Q I r h
  exact wpAny_assign_Name (store_ok I hN hi hx r (fun s' I'=>⟨_,H,I',h⟩) hf)
noncomputable def gNil : TGs:=fun vs σ H Q=>vs = []∧Q σ H
noncomputable def gCons (t : TG) (u : TGs) : TGs:=fun vs σ H Q=>∃ v r,vs = v::r∧t v σ H fun σ' H'=>u r σ' H' Q
theorem pgs_nil : PGs X [] gNil:=by
  intro pins s σ H vs us Q I r h
  obtain ⟨e,h⟩:=h
  subst e
  cases r
  exact assignInOrder_nil ⟨σ,H,I,h⟩
theorem pgs_cons {e : Expr} {es : List Expr} {t : TG} {u : TGs} (h1 : PG X e t) (h2 : PGs X es u)
    (hs : (assignEach (e::es) X.env).map (·.2) = assign e X.env::(assignEach es X.env).map (·.2):=by rfl) : PGs X (e::es) (gCons t u):=by
  intro pins s σ H vs us Q I r h
  obtain ⟨v,vr,e1,h⟩:=h
  subst e1
  cases r with
  | cons r rr =>
    rw [hs]
    refine assignInOrder_cons (thn (h1 pins s σ H _ _ _ I r h) fun _ s1 ⟨σ1,H1,I1,q1⟩=>?_)
    exact h2 pins s1 σ1 H1 _ _ Q I1 rr q1
noncomputable def gTup (K : PySem.W.Frag) (n : Nat) (t : TGs) : TG:=fun v σ H Q=>∃ a xs,v = .ref a∧SqT K H a xs∧xs.length = n∧t xs σ H Q
theorem pg_tup {es : List Expr} {k : Nat} {t : TGs} {n : Nat} (hc : X.calm = true) (h : PGs X es t)
    (hn : (assignEach es X.env).length = n:=by rfl) (hst : (assignEach es X.env).findIdx? (·.1) = none:=by rfl) : PG X (.Tuple es k pos) (gTup X.K n t):=by
  intro pins s σ H v u Q I r hw
  obtain ⟨a,xs,e1,hq,hl,hw⟩:=hw
  subst e1
  cases r
  obtain ⟨its,rv,ht,hz⟩:=I.tuple hq
  refine assign_Tuple_tuple (I.ok.hd hc) ht (by simp [hn,← hl,rv.length]) hst fun h' hx=>?_
  have I1 : Inv X pins σ H { s with heap:=h' }:=I.kept (t':=s.toks) fun b o e=>hx b o (Nat.ne_of_lt (Heap.lt_size e)) e
  exact h pins _ σ H xs _ Q I1 (by simpa using rv) hw
noncomputable def tAsg (te : TE) (g : TG) : TS:=fun D σ H=>te σ H fun x H1=>g x σ H1 D.nx
theorem ps_set {i : Nat} {x : Str} {e : Expr} {te : TE} {pos' : Pos} (hN : X.N.Nodup) (hi : X.N[i]? = some x) (hx : Loc X.env.scope x) (he : PE X e te) (hs : swapsWith e (some (.Name x pos')) pos.line X.env = pure false:=by rfl) (hf : X.fn x = true∨X.env.scope.names.lookup x = some .local:=by first | exact .inl rfl | exact .inr rfl | assumption) :
    PS X (.Assign [.Name x pos'] e pos) (tAsg te (gName i)):=by
  intro pins s σ H D I h
  refine wpAny_Assign_Name (thn (he pins s σ H _ I h) fun v s1 ⟨y,H1,I1,r1,q1⟩=>?_) hs
  exact store_ok I1 hN hi hx r1 (fun s2 I2=>⟨_,H1,I2,q1⟩) hf
end
section
variable {X : Cx} {pos : Pos}
end
structure It where
  go : Nat→Hp→Prop
  yld : Nat→Hp→V→Hp→Prop
  stop : Nat→Hp→Prop
noncomputable def FpOk (X : Cx) (pins : List (Addr × Obj)) (H : Hp) (b : Addr) : Prop :=
  H b = none∧b ≠ X.env.locals∧b ∉ X.fs∧(b ∈ X.ex∨X.s₀.heap.objs.size ≤ b)∧(∀ x c,X.env.cells.lookup x = some c→c ≠ b)∧∀ p ∈ X.pn++pins,p.1 ≠ b
theorem Inv.fpOk {X : Cx} {pins : List (Addr × Obj)} {σ : St} {H H' : Hp} {s : Shared} {b : Addr} (I : Inv X pins σ H s) (hb : s.heap.objs.size ≤ b) (hn : H' b = none) : FpOk X pins H' b:=by
  refine ⟨hn,Nat.ne_of_gt (Nat.lt_of_lt_of_le I.lt hb),I.nofs hb,.inr (Nat.le_trans I.sz hb),fun x c e z=>?_,fun p hp z=>?_⟩
  · obtain ⟨v,q⟩:=I.cell x c e
    exact absurd (Nat.lt_of_lt_of_le q.lt (by rw [z]; exact hb)) (Nat.lt_irrefl _)
  · exact absurd (Nat.lt_of_lt_of_le (Heap.lt_size (I.pin p hp).1) (by rw [z]; exact hb)) (Nat.lt_irrefl _)
structure Turn (P : Program) (w : World) (K : PySem.W.Frag) (tg : Expr) (J : It) (fp : List Addr) (it : Addr) (tn : Nat→Heap→Prop) : Prop where
  mem : it ∈ fp
  obj : ∀ i h,tn i h→∀ b ∈ fp,∃ o,h.get? b = some o∧∀ v,o.data ≠ .cell v
  keep : ∀ i h h',tn i h→(∀ b ∈ fp,∀ o,h.get? b = some o→h'.get? b = some o)→tn i h'
  item : ∀ (X : Cx),X.prog = P→X.w = w→X.K = K→X.calm = true→∀ (i : Nat) (pins : List (Addr × Obj)) (s : Shared) (σ : St) (H : Hp) (E : Value→Shared→Prop),Inv X pins σ H s→(∀ b ∈ fp,FpOk X pins H b)→tn i s.heap→J.go i H →
    wpAny (model P w) X.A (pyNext (.ref it)) (fun r s1=>∃ u,r = some u ∧
      wpAny (model P w) X.A (letOwnedTupleGo tg (.ref it) u) (fun _ s2=>∃ x H',Inv X pins σ H' s2∧RelV x u∧J.yld i H x H'∧tn (i + 1) s2.heap∧∀ b ∈ fp,H' b = none) E s1) E s
  done : ∀ (X : Cx),X.prog = P→X.w = w→X.K = K→X.calm = true→∀ (i : Nat) (pins : List (Addr × Obj)) (s : Shared) (σ : St) (H : Hp) (E : Value→Shared→Prop),Inv X pins σ H s→(∀ b ∈ fp,FpOk X pins H b)→tn i s.heap→J.stop i H →
    wpAny (model P w) X.A (pyNext (.ref it)) (fun r s1=>r = none∧Inv X pins σ H s1) E s
  self : ∀ (A : Around) (i : Nat) (s : Shared) (Q : Value→Shared→Prop) (E : Value→Shared→Prop),tn i s.heap→Q (.ref it) s→wpAny (model P w) A (pyIter (.ref it)) Q E s
noncomputable abbrev TI:=St→Hp→(It→Hp→Prop)→Prop
noncomputable def PIE (X : Cx) (pins : List (Addr × Obj)) (σ : St) (tg : Expr) (R : It→Hp→Prop) (itv : Value) (s2 : Shared) : Prop :=
  ∃ (it : Addr) (fp : List Addr) (tn : Nat→Heap→Prop) (J : It) (H' : Hp),itv = .ref it∧Inv X pins σ H' s2∧Turn X.prog X.w X.K tg J fp it tn∧tn 0 s2.heap∧(∀ b ∈ fp,FpOk X pins H' b)∧R J H'
noncomputable def PI (X : Cx) (tg iter : Expr) (wi : TI) : Prop :=
  ∀ (pins : List (Addr × Obj)) (s : Shared) (σ : St) (H : Hp) (R : It→Hp→Prop),Inv X pins σ H s→wi σ H R →
    wpAny (model X.prog X.w) X.A (eval iter X.env) (fun v s1=>wpAny (model X.prog X.w) X.A (pyIter v) (PIE X pins σ tg R) X.xe s1) X.xe s
theorem go_of {M : Model} {A : Around} {E : Value→Shared→Prop} {s : Shared} {tg : Expr} {it : Addr} {u : Value} {o : Obj} {n : String} {vs : Array Value} {Q : Unit→Shared→Prop} (ho : s.heap.get? it = some o) (hc : o.cls = .type n) (hd : o.data = .fields vs)
    (hn : ["enumerate","zip","dict_itemiterator","dict_reverseitemiterator","odict_iterator","itertools.zip_longest","itertools.pairwise"].contains n = false) (hQ : Q () s) : wpAny M A (letOwnedTupleGo tg (.ref it) u) Q E s:=by
  unfold letOwnedTupleGo
  cases tg <;> first
    | exact wpAny_pure hQ
    | (cases u <;> first
        | exact wpAny_pure hQ
        | (refine wpAny_bind (wpAny_load ho ?_)
           rw [hc,hd]
           show wpAny M A (if (["enumerate","zip","dict_itemiterator","dict_reverseitemiterator","odict_iterator","itertools.zip_longest","itertools.pairwise"].contains n && vs[0]? == some (rawInt _)) = true then _ else _) Q E s
           rw [if_neg (by intro h; rw [hn,Bool.false_and] at h; cases h)]
           exact wpAny_pure hQ))
noncomputable def Itl (K : PySem.W.Frag) (a : Addr) : It :=
  ⟨fun i H=>∃ xs x,SqL K H a xs∧xs[i]? = some x,fun i H x H'=>H' = H∧∀ xs,SqL K H a xs→xs[i]? = some x,fun i H=>∃ xs,SqL K H a xs∧xs.length ≤ i⟩
noncomputable def Itt (K : PySem.W.Frag) (a : Addr) : It :=
  ⟨fun i H=>∃ xs x,SqT K H a xs∧xs[i]? = some x,fun i H x H'=>H' = H∧∀ xs,SqT K H a xs→xs[i]? = some x,fun i H=>∃ xs,SqT K H a xs∧xs.length ≤ i⟩
noncomputable def Itr (lo : Int) (n : Nat) : It:=⟨fun i _=>i < n,fun i H x H'=>H' = H∧x = .int (lo + i),fun i _=>n ≤ i⟩
theorem turn_list {P : Program} {w : World} {K : PySem.W.Frag} {tg : Expr} (a it : Addr) : Turn P w K tg (Itl K a) [it] it (fun i h=>h.IsListIter it a i) where
  mem:=by simp
  obj:=fun i h st b hb=>by
    have e : b = it:=by simpa using hb
    subst e
    obtain ⟨o,e,c,d⟩:=st
    exact ⟨o,e,fun v z=>by rw [d] at z; cases z⟩
  keep:=fun i h h' st k=>st.at fun o e=>k it (by simp) o e
  item:=by
    intro X hP hw hK hc i pins s σ H E I hf st hg
    subst hP hw hK
    obtain ⟨xs,x,hq,hx⟩:=hg
    obtain ⟨its,rv,p,hz⟩:=I.list hq
    obtain ⟨u,hu,ru⟩:=rv.get hx
    obtain ⟨f0,f1,f2,f3,f4,f5⟩:=hf it (by simp)
    refine wpAny_pyNext_list_item st p.isList (x:=u) (by simpa using hu) fun h' st' sb=>?_
    have I1 : Inv X pins σ H { s with heap:=h' }:=I.turned (t':=s.toks) (fun b o hb e=>(sb.2 b hb).trans e) f0 f1 f3 f4 f5
    obtain ⟨o,e,c,d⟩:=id st'
    exact ⟨u,rfl,go_of (s:={ s with heap:=h' }) e c d (by decide) ⟨x,H,I1,ru,⟨rfl,fun ys hy=>by rw [I.list_inj hy hq]; exact hx⟩,st',fun b hb=>(hf b hb).1⟩⟩
  done:=by
    intro X hP hw hK hc i pins s σ H E I hf st hg
    subst hP hw hK
    obtain ⟨xs,hq,hx⟩:=hg
    obtain ⟨its,rv,p,hz⟩:=I.list hq
    obtain ⟨f0,f1,f2,f3,f4,f5⟩:=hf it (by simp)
    have hl:=rv.length
    exact wpAny_pyNext_list_end (I.ok.hd hc) st p.isList (by simp; omega) fun h' eb=>⟨rfl,I.turned (t':=s.toks) (fun b o hb e=>eb b o hb e) f0 f1 f3 f4 f5⟩
  self:=fun _ _ _ _ _ st h=>wpAny_pyIter_listiter st h
theorem turn_tuple {P : Program} {w : World} {K : PySem.W.Frag} {tg : Expr} (a it : Addr) : Turn P w K tg (Itt K a) [it] it (fun i h=>h.IsTupleIter it a i) where
  mem:=by simp
  obj:=fun i h st b hb=>by
    have e : b = it:=by simpa using hb
    subst e
    obtain ⟨o,e,c,d⟩:=st
    exact ⟨o,e,fun v z=>by rw [d] at z; cases z⟩
  keep:=fun i h h' st k=>st.at fun o e=>k it (by simp) o e
  item:=by
    intro X hP hw hK hc i pins s σ H E I hf st hg
    subst hP hw hK
    obtain ⟨xs,x,hq,hx⟩:=hg
    obtain ⟨its,rv,p,hz⟩:=I.tuple hq
    obtain ⟨u,hu,ru⟩:=rv.get hx
    obtain ⟨f0,f1,f2,f3,f4,f5⟩:=hf it (by simp)
    refine wpAny_pyNext_tuple_item st (show s.heap.IsTuple a its.toArray from p) (x:=u) (by simpa using hu) fun h' st' sb=>?_
    have I1 : Inv X pins σ H { s with heap:=h' }:=I.turned (t':=s.toks) (fun b o hb e=>(sb.2 b hb).trans e) f0 f1 f3 f4 f5
    obtain ⟨o,e,c,d⟩:=id st'
    exact ⟨u,rfl,go_of (s:={ s with heap:=h' }) e c d (by decide) ⟨x,H,I1,ru,⟨rfl,fun ys hy=>by rw [I.tuple_inj hy hq]; exact hx⟩,st',fun b hb=>(hf b hb).1⟩⟩
  done:=by
    intro X hP hw hK hc i pins s σ H E I hf st hg
    subst hP hw hK
    obtain ⟨xs,hq,hx⟩:=hg
    obtain ⟨its,rv,p,hz⟩:=I.tuple hq
    obtain ⟨f0,f1,f2,f3,f4,f5⟩:=hf it (by simp)
    have hl:=rv.length
    exact wpAny_pyNext_tuple_end (I.ok.hd hc) st (show s.heap.IsTuple a its.toArray from p) (by simp; omega) fun h' eb=>⟨rfl,I.turned (t':=s.toks) (fun b o hb e=>eb b o hb e) f0 f1 f3 f4 f5⟩
  self:=fun _ _ _ _ _ st h=>wpAny_pyIter_tupleiter st h
theorem turn_range {P : Program} {w : World} {K : PySem.W.Frag} {tg : Expr} (it : Addr) (lo : Int) (n : Nat) : Turn P w K tg (Itr lo n) [it] it (fun i h=>IsRangeIter h it (lo + (i : Nat) * 1) ((n : Int) - (i : Nat)) 1) where
  mem:=by simp
  obj:=fun i h st b hb=>by
    have e : b = it:=by simpa using hb
    subst e
    exact ⟨_,st,fun v z=>by
      have z' : Data.fields _ = Data.cell v:=z
      cases z'⟩
  keep:=fun i h h' st k=>k it (by simp) _ st
  item:=by
    intro X hP hw hK hc i pins s σ H E I hf st hg
    subst hP hw hK
    obtain ⟨f0,f1,f2,f3,f4,f5⟩:=hf it (by simp)
    have W:=Walks.range (prog:=X.prog) (w:=X.w) (I.ok.hd hc) it lo 1 n
    refine W.item i s _ _ hg st fun v h' tk hv st' kk=>?_
    obtain ⟨t,rfl⟩:=hv
    have I1 : Inv X pins σ H { s with heap:=h',toks:=tk }:=I.turned (fun b o hb e=>kk b o (by simpa using hb) e) f0 f1 f3 f4 f5
    refine ⟨_,rfl,go_of (s:={ s with heap:=h',toks:=tk }) (n:="range_iterator") st' rfl rfl (by decide) ⟨.int (lo + i),H,I1,⟨t,?_⟩,⟨rfl,rfl⟩,st',fun b hb=>(hf b hb).1⟩⟩
    rw [Int.mul_one]
  done:=by
    intro X hP hw hK hc i pins s σ H E I hf st hg
    subst hP hw hK
    obtain ⟨f0,f1,f2,f3,f4,f5⟩:=hf it (by simp)
    exact wpAny_pyNext_range_end (I.ok.hd hc) st (by have : n ≤ i:=hg; omega) fun h' eb=>⟨rfl,I.turned (t':=s.toks) (fun b o hb e=>eb b o hb e) f0 f1 f3 f4 f5⟩
  self:=fun _ _ _ _ _ st h=>wpAny_pyIter_rangeiter st h
end L2
namespace L2
open PySem PySem.Spec PyProof.Rows
section
variable {X : Cx} {tg : Expr}
theorem range_it {pins : List (Addr × Obj)} {σ : St} {H : Hp} {s : Shared} {R : It→Hp→Prop} {E : Value→Shared→Prop} {lo hi : Int} {t u v : Tok} {tk : Nat} (I : Inv X pins σ H s) (h1 : -(2 ^ 62) ≤ lo) (h2 : lo < 2 ^ 62) (h3 : -(2 ^ 62) ≤ hi) (h4 : hi < 2 ^ 62)
    (q : R (Itr lo (hi - lo).toNat) H) : wpAny (model X.prog X.w) X.A (pyIter (.ref s.heap.objs.size)) (PIE X pins σ tg R) E { s with heap:=s.heap.push { cls:=.type "range",data:=.fields #[.int lo t,.int hi u,.int 1 v] },toks:=tk }:=by
  refine wpAny_pyIter_range (IsRange.new ..) (small_one h1 h2 h3 h4) ?_
  have I1 : Inv X pins σ H { s with heap:=s.heap.push { cls:=.type "range",data:=.fields #[.int lo t,.int hi u,.int 1 v] },toks:=tk }:=I.kept fun b o e=>Heap.get?_push_of_some _ e
  refine ⟨(s.heap.push { cls:=.type "range",data:=.fields #[.int lo t,.int hi u,.int 1 v] }).objs.size,[(s.heap.push { cls:=.type "range",data:=.fields #[.int lo t,.int hi u,.int 1 v] }).objs.size],_,_,H,rfl,
    I1.kept (t':=tk) fun b o e=>Heap.get?_push_of_some _ e,turn_range _ lo (hi - lo).toNat,?_,fun b hb=>?_,q⟩
  · have e1 : lo + ((0 : Nat) : Int) * 1 = lo:=by simp
    have e2 : (((hi - lo).toNat : Nat) : Int) - ((0 : Nat) : Int) = Builtin.Range.rangeSize lo hi 1:=by rw [rangeSize_one]; split <;> omega
    show IsRangeIter _ _ (lo + ((0 : Nat) : Int) * 1) ((((hi - lo).toNat : Nat) : Int) - ((0 : Nat) : Int)) 1
    rw [e1,e2]
    exact Heap.get?_push_size _ rfl
  · have e : b = (s.heap.push { cls:=.type "range",data:=.fields #[.int lo t,.int hi u,.int 1 v] }).objs.size:=by simpa using hb
    subst e
    exact I1.fpOk (Nat.le_refl _) (I1.hok.fresh (Nat.le_refl _))
noncomputable def iRng1 (ta : TA) : TI:=fun σ H R=>ta σ H fun vs H1=>∃ j : Int,vs = [.int j]∧-(2 ^ 62) ≤ j∧j < 2 ^ 62∧R (Itr 0 j.toNat) H1
theorem pi_range1 {a : Expr} {ta : TA} {p pos : Pos} (hg : Gl X "range") (hm : X.mg "range" = none) (ha : PA X [a] ta) (hs : starEach [a] X.env = [(false,eval a X.env)]:=by rfl) : PI X tg (.Call (.Name "range" p) [a] [] pos) (iRng1 ta):=by
  intro pins s σ H R I h
  refine Call_ (ld_blt I hg hm boot_range (PyProof.Rows.callWith_type1 (thn (ha pos pins s σ H _ I h) fun us s1 ⟨vs,H1,I1,r1,q1⟩=>?_) hs rfl))
  obtain ⟨j,e,q1,q2,q⟩:=q1
  subst e
  cases r1 with
  | cons r rr =>
    cases rr
    obtain ⟨t,rfl⟩:=r
    exact call_range_1 (range_it I1 (by omega) (by omega) q1 q2 (by simpa using q))
noncomputable def tFor (wi : TI) (g : TG) (tb : TS) : TS:=fun D σ H=>wi σ H fun J H1=>∃ W : Nat→Nat→St→Hp→Prop,(∃ m,W 0 m σ H1)∧∀ i m σ H,W i m σ H →
  (J.stop i H∧D.nx σ H)∨(J.go i H∧∃ N : St→Hp→Prop,(∀ σ' H',N σ' H'→∃ m',m' < m∧W (i + 1) m' σ' H')∧∀ x H',J.yld i H x H'→g x σ H' fun σ2 H2=>tb { D with nx:=N,ct:=N,bk:=D.nx } σ2 H2)
noncomputable def pinsAt (fp : List Addr) (h : Heap) : List (Addr × Obj):=fp.filterMap fun b=>(h.get? b).map fun o=>(b,o)
theorem mem_pinsAt {fp : List Addr} {h : Heap} {b : Addr} {o : Obj} (hb : b ∈ fp) (e : h.get? b = some o) : (b,o) ∈ pinsAt fp h:=List.mem_filterMap.mpr ⟨b,hb,by rw [e]; rfl⟩
theorem of_pinsAt {fp : List Addr} {h : Heap} {p : Addr × Obj} (hp : p ∈ pinsAt fp h) : p.1 ∈ fp∧h.get? p.1 = some p.2:=by
  obtain ⟨b,hb,e⟩:=List.mem_filterMap.mp hp
  cases q : h.get? b with
  | none=>rw [q] at e; cases e
  | some o =>
    rw [q] at e
    have e' : (b,o) = p:=Option.some.inj e
    subst e'
    exact ⟨hb,q⟩
theorem Inv.pinned {pins : List (Addr × Obj)} {σ : St} {H : Hp} {s : Shared} {fp : List Addr} (I : Inv X pins σ H s) (hf : ∀ b ∈ fp,FpOk X pins H b) (ho : ∀ b ∈ fp,∃ o,s.heap.get? b = some o∧∀ v,o.data ≠ .cell v) : Inv X (pins++pinsAt fp s.heap) σ H s :=
  I.pins_of fun p hp=>(List.mem_append.mp hp).elim (fun z=>I.pin p (List.mem_append_right _ z)) fun z=>by
    obtain ⟨hb,e⟩:=of_pinsAt z
    obtain ⟨f0,f1,f2,_⟩:=hf p.1 hb
    obtain ⟨o,e',d⟩:=ho p.1 hb
    rw [e] at e'; cases e'
    exact ⟨e,f0,f1,f2,d⟩
theorem Inv.unpinned {pins pl : List (Addr × Obj)} {σ : St} {H : Hp} {s : Shared} (I : Inv X (pins++pl) σ H s) : Inv X pins σ H s:=I.pins_of fun p hp=>I.pin p (List.mem_append_right _ (List.mem_append_left _ hp))
theorem ps_for {iter : Expr} {body : List Stmt} {wi : TI} {g : TG} {tb : TS} {pos : Pos} (hp : PassesOwn (model X.prog X.w) X.A X.env X.xe) (hc : X.calm = true) (hi : PI X tg iter wi) (hg : PG X tg g) (hb : PSs X body tb)
    (hs : ∀ x,foldedSetIterable iter X.env x = pure x:=by intro _; rfl) : PS X (.For tg iter body [] pos) (tFor wi g tb):=by
  intro pins s σ H D I h
  refine wpAny_For (thn (hi pins s σ H _ I h) fun v s1 h1=>thn h1 fun itv s2 h2=>?_) hs
  obtain ⟨it,fp,tn,J,H2,e,I2,T,st2,f2,W,⟨m0,w0⟩,turn⟩:=h2
  subst e
  -- what stays true of the iterator's objects through the loop
  have stat : ∀ {H' : Hp},(∀ b ∈ fp,H' b = none)→∀ b ∈ fp,FpOk X pins H' b:=fun hn b hb=>⟨hn b hb,(f2 b hb).2⟩
  refine codeAny_forLoop_any (fun n s'=>∃ i σ' H',Inv X pins σ' H' s'∧tn i s'.heap∧(∀ b ∈ fp,H' b = none)∧W i n σ' H') ?_ m0 ⟨0,σ,H2,I2,st2,fun b hb=>(f2 b hb).1,w0⟩
  rintro n s3 ⟨i,σ3,H3,I3,st3,fr3,w3⟩
  rcases turn i n σ3 H3 w3 with ⟨stop,qn⟩ | ⟨go,N,hN,step⟩
  · refine wpAny_passesOwn hp (thn (T.done X rfl rfl rfl hc i pins s3 σ3 H3 X.xe I3 (stat fr3) st3 stop) fun r s4 ⟨hr,I4⟩=>?_)
    subst hr
    exact wpAny_execs_nil ⟨σ3,H3,I4,qn⟩
  · refine wpAny_passesOwn hp (thn (T.item X rfl rfl rfl hc i pins s3 σ3 H3 X.xe I3 (stat fr3) st3 go) fun r s4 ⟨u,hr,h4⟩=>?_)
    subst hr
    refine wpAny_passesOwn hp (thn h4 fun _ s5 ⟨x,H5,I5,r5,y5,st5,fr5⟩=>?_)
    have I5':=I5.pinned (stat fr5) (T.obj _ _ st5)
    refine wpAny_passesOwn hp (thn (hg _ s5 σ3 H5 x u _ I5' r5 (step x H5 y5)) fun _ s6 ⟨σ6,H6,I6,q6⟩=>?_)
    refine wpAny_passesOwn hp (thn (hb _ s6 σ6 H6 _ I6 q6) fun f s7 q7=>?_)
    have again : ∀ {σ7 : St} {H7 : Hp},Inv X (pins++pinsAt fp s5.heap) σ7 H7 s7→N σ7 H7→∃ m,m < n∧∃ i σ' H',Inv X pins σ' H' s7∧tn i s7.heap∧(∀ b ∈ fp,H' b = none)∧W i m σ' H':=fun {σ7 H7} I7 n7=>by
      obtain ⟨m',hm,w7⟩:=hN σ7 H7 n7
      refine ⟨m',hm,i + 1,σ7,H7,I7.unpinned,T.keep _ _ _ st5 fun b hb o e=>(I7.pin (b,o) (List.mem_append_right _ (List.mem_append_right _ (mem_pinsAt hb e)))).1,fun b hb=>?_,w7⟩
      obtain ⟨o,e,d⟩:=T.obj _ _ st5 b hb
      exact (I7.pin (b,o) (List.mem_append_right _ (List.mem_append_right _ (mem_pinsAt hb e)))).2.1
    cases f with
    | next=>obtain ⟨σ7,H7,I7,n7⟩:=q7; exact again I7 n7
    | cont=>obtain ⟨σ7,H7,I7,n7⟩:=q7; exact again I7 n7
    | brk=>obtain ⟨σ7,H7,I7,q7⟩:=q7; exact ⟨σ7,H7,I7.unpinned,q7⟩
    | ret v=>obtain ⟨x7,σ7,H7,I7,r7,q7⟩:=q7; exact ⟨x7,σ7,H7,I7.unpinned,r7,q7⟩
end
end L2
namespace L2
open PySem PySem.Spec PyProof.Rows
noncomputable abbrev R2:=V→V→Hp→VK→Prop
noncomputable def OpR (X : Cx) (f : Value→Value→Sem Value) (r : R2) : Prop :=
  ∀ (pins : List (Addr × Obj)) (s : Shared) (σ : St) (H : Hp) (x y : V) (v u : Value) (Q : VK),Inv X pins σ H s→RelV x v→RelV y u→r x y H Q →
    wpAny (model X.prog X.w) X.A (f v u) (EP X pins σ Q) X.xe s
noncomputable def CallR (X : Cx) (f : Value) (r : List V→Hp→VK→Prop) : Prop :=
  ∀ (pins : List (Addr × Obj)) (s : Shared) (σ : St) (H : Hp) (xs : List V) (us : List Value) (Q : VK),Inv X pins σ H s→Vals xs us→r xs H Q →
    wpAny (model X.prog X.w) X.A (call f us) (EP X pins σ Q) X.xe s
noncomputable def TruR (X : Cx) (r : V→Hp→(Bool→Hp→Prop)→Prop) : Prop :=
  ∀ (pins : List (Addr × Obj)) (s : Shared) (σ : St) (H : Hp) (x : V) (v : Value) (Q : Bool→Hp→Prop),Inv X pins σ H s→RelV x v→r x H Q →
    wpAny (model X.prog X.w) X.A (truthy v) (TP X pins σ Q) X.xe s
noncomputable def tOp (r : R2) (ta tb : TE) : TE:=fun σ H Q=>ta σ H fun x H1=>tb σ H1 fun y H2=>r x y H2 Q
noncomputable def rI (C : Int→Int→Prop) (g : Int→Int→V) : R2:=fun x y H Q=>∃ i j,x = .int i∧y = .int j∧C i j∧Q (g i j) H
noncomputable def rI0 (g : Int→Int→V) : R2:=fun x y H Q=>∃ i j,x = .int i∧y = .int j∧Q (g i j) H
section
variable {X : Cx} {a b c : Expr} {ta tb tc : TE} {pos : Pos}
theorem binT (ha : PE X a ta) (hb : PE X b tb) {pins : List (Addr × Obj)} {s : Shared} {σ : St} {H : Hp} {R : V→V→Hp→Prop} (I : Inv X pins σ H s)
    (h : ta σ H fun x H1=>tb σ H1 fun y H2=>R x y H2) {Q : Value→Shared→Prop} {f : Value→Value→Sem Value}
    (hf : ∀ v u s2 x y H2,Inv X pins σ H2 s2→RelV x v→RelV y u→R x y H2→wpAny (model X.prog X.w) X.A (f v u) Q X.xe s2) :
    wpAny (model X.prog X.w) X.A (eval a X.env) (fun v s₁=>wpAny (model X.prog X.w) X.A (eval b X.env) (fun u s₂=>wpAny (model X.prog X.w) X.A (f v u) Q X.xe s₂) X.xe s₁) X.xe s:=by
  refine thn (ha pins s σ H _ I h) fun v s1 ⟨x,H1,I1,r1,q1⟩=>?_
  refine thn (hb pins s1 σ H1 _ I1 q1) fun u s2 ⟨y,H2,I2,r2,q2⟩=>?_
  exact hf v u s2 x y H2 I2 r1 r2 q2
theorem pe_op {op : Operator} {r : R2} (ho : OpR X (binaryOp op) r) (ha : PE X a ta) (hb : PE X b tb) : PE X (.BinOp a op b pos) (tOp r ta tb):=by
  intro pins s σ H Q I h
  exact wpAny_BinOp (binT ha hb I h fun v u s2 x y H2 I2 rx ry q=>ho pins s2 σ H2 x y v u Q I2 rx ry q)
theorem opI {f : Value→Value→Sem Value} {C : Int→Int→Prop} {g : Int→Int→Int}
    (rule : ∀ (i j : Int) (t u : Tok) (s : Shared) (Q : Value→Shared→Prop) (E : Value→Shared→Prop),C i j→Q (.int (g i j) s.toks) { s with toks:=s.toks + 1 }→wpAny (model X.prog X.w) X.A (f (.int i t) (.int j u)) Q E s) :
    OpR X f (rI C fun i j=>.int (g i j)):=by
  intro pins s σ H x y v u Q I rx ry h
  obtain ⟨i,j,rfl,rfl,hc,q⟩:=h
  obtain ⟨t,rfl⟩:=rx
  obtain ⟨t',rfl⟩:=ry
  exact rule i j t t' s _ _ hc ⟨.int (g i j),H,I.tok _,⟨_,rfl⟩,q⟩
theorem opI0 {f : Value→Value→Sem Value} {g : Int→Int→Int}
    (rule : ∀ (i j : Int) (t u : Tok) (s : Shared) (Q : Value→Shared→Prop) (E : Value→Shared→Prop),Q (.int (g i j) s.toks) { s with toks:=s.toks + 1 }→wpAny (model X.prog X.w) X.A (f (.int i t) (.int j u)) Q E s) :
    OpR X f (rI0 fun i j=>.int (g i j)):=by
  intro pins s σ H x y v u Q I rx ry h
  obtain ⟨i,j,rfl,rfl,q⟩:=h
  obtain ⟨t,rfl⟩:=rx
  obtain ⟨t',rfl⟩:=ry
  exact rule i j t t' s _ _ ⟨.int (g i j),H,I.tok _,⟨_,rfl⟩,q⟩
theorem opB0 {f : Value→Value→Sem Value} {g : Int→Int→Bool}
    (rule : ∀ (i j : Int) (t u : Tok) (s : Shared) (Q : Value→Shared→Prop) (E : Value→Shared→Prop),Q (.bool (g i j)) s→wpAny (model X.prog X.w) X.A (f (.int i t) (.int j u)) Q E s) :
    OpR X f (rI0 fun i j=>.bl (g i j)):=by
  intro pins s σ H x y v u Q I rx ry h
  obtain ⟨i,j,rfl,rfl,q⟩:=h
  obtain ⟨t,rfl⟩:=rx
  obtain ⟨t',rfl⟩:=ry
  exact rule i j t t' s _ _ ⟨.bl (g i j),H,I,rfl,q⟩
noncomputable def CPow (i j : Int) : Prop:=0 ≤ j∧j ≤ 1000000∧i.natAbs < 2 ^ 64
noncomputable def CMul (i j : Int) : Prop:=(-(2 ^ 64) < i∧i < 2 ^ 64)∨(-(2 ^ 64) < j∧j < 2 ^ 64)
theorem CMul.ok {i j : Int} (h : CMul i j) : IntMulOk i j:=by
  rcases h with ⟨h1,h2⟩ | ⟨h1,h2⟩
  · exact .of_left (intBits_le_64 h1 h2)
  · exact .of_right (intBits_le_64 h1 h2)
theorem op_add : OpR X (binaryOp .Add) (rI0 fun i j=>.int (i + j)):=opI0 fun _ _ _ _ _ _ _ q=>add_int q
theorem op_sub : OpR X (binaryOp .Sub) (rI0 fun i j=>.int (i - j)):=opI0 fun _ _ _ _ _ _ _ q=>sub_int q
theorem op_mul : OpR X (binaryOp .Mult) (rI CMul fun i j=>.int (i * j)):=opI fun _ _ _ _ _ _ _ hc q=>mul_int q hc.ok
theorem op_mod : OpR X (binaryOp .Mod) (rI (fun _ j=>0 < j) fun i j=>.int (i % j)):=opI fun i j _ _ _ _ _ hc q=>by
  have h1 : (0 : Int) < j:=hc
  exact mod_int' (by omega) (by rw [Int.fmod_eq_emod_of_nonneg i (by omega)]; exact q)
theorem op_pow : OpR X (binaryOp .Pow) (rI CPow fun i j=>.int (i ^ j.toNat)):=opI fun _ _ _ _ _ _ _ hc q=>pow_int_small hc.1 hc.2.1 hc.2.2 q
end
section
variable {X : Cx} {a b c : Expr} {ta tb tc : TE} {pos : Pos}
theorem fin_bl {pins : List (Addr × Obj)} {σ : St} {H : Hp} {s : Shared} {Q : VK} {k k' : Bool} (I : Inv X pins σ H s) (q : Q (.bl k) H) (e : k = k') : EP X pins σ Q (.bool k') s:=by
  subst e
  exact ⟨.bl k,H,I,rfl,q⟩
theorem op_lt : OpR X (compareOp .Lt) (rI0 fun i j=>.bl (decide (i < j))):=opB0 fun _ _ _ _ _ _ _ q=>lt_int q
theorem op_le : OpR X (compareOp .LtE) (rI0 fun i j=>.bl (decide (i ≤ j))):=opB0 fun _ _ _ _ _ _ _ q=>le_int q
theorem op_gt : OpR X (compareOp .Gt) (rI0 fun i j=>.bl (decide (j < i))):=opB0 fun _ _ _ _ _ _ _ q=>gt_int q
theorem op_ge : OpR X (compareOp .GtE) (rI0 fun i j=>.bl (decide (j ≤ i))):=opB0 fun _ _ _ _ _ _ _ q=>ge_int q
theorem op_in_str : OpR X (compareOp .In) (fun x y H Q=>∃ i j,x = .str i∧y = .str j∧Q (.bl (!(Builtin.Str.occurrences j i 0 j.length 1).isEmpty)) H):=by
  intro pins s σ H x y v u Q I rx ry h
  obtain ⟨i,j,rfl,rfl,q⟩:=h
  obtain ⟨t,rfl⟩:=rx
  obtain ⟨t',rfl⟩:=ry
  exact in_str (fin_bl I q rfl)
theorem op_isN : OpR X (compareOp .Is) (fun x y H Q=>y = .non∧Q (.bl (decide (x = .non))) H):=by
  intro pins s σ H x y v u Q I rx ry h
  obtain ⟨rfl,q⟩:=h
  cases ry
  refine is_none_gen (fin_bl I q ?_)
  cases x <;> first
    | (cases rx; rfl)
    | (obtain ⟨t,rfl⟩:=rx; rfl)
theorem op_notN : OpR X (compareOp .IsNot) (fun x y H Q=>y = .non∧Q (.bl (!decide (x = .non))) H):=by
  intro pins s σ H x y v u Q I rx ry h
  obtain ⟨rfl,q⟩:=h
  cases ry
  refine isnot_none_gen (fin_bl I q ?_)
  cases x <;> first
    | (cases rx; rfl)
    | (obtain ⟨t,rfl⟩:=rx; rfl)
theorem op_notin_str : OpR X (compareOp .NotIn) (fun x y H Q=>∃ i j,x = .str i∧y = .str j∧Q (.bl (!(!(Builtin.Str.occurrences j i 0 j.length 1).isEmpty))) H):=by
  intro pins s σ H x y v u Q I rx ry h
  obtain ⟨i,j,rfl,rfl,q⟩:=h
  obtain ⟨t,rfl⟩:=rx
  obtain ⟨t',rfl⟩:=ry
  exact notIn_str (fin_bl I q rfl)
theorem OpR.or {f : Value→Value→Sem Value} {r r' : R2} (h : OpR X f r) (h' : OpR X f r') : OpR X f (fun x y H Q=>r x y H Q∨r' x y H Q):=by
  intro pins s σ H x y v u Q I rx ry q
  rcases q with q | q
  · exact h pins s σ H x y v u Q I rx ry q
  · exact h' pins s σ H x y v u Q I rx ry q
theorem pe_cmpR {op : CmpOp} {r : R2} (ho : OpR X (compareOp op) r) (ha : PE X a ta) (hb : PE X b tb) (hm : behindInMarks op b = false) : PE X (.Compare a [op] [b] pos) (tOp r ta tb):=by
  intro pins s σ H Q I h
  exact wpAny_Compare1 (binT ha hb I h fun v u s2 x y H2 I2 rx ry q=>ho pins s2 σ H2 x y v u Q I2 rx ry q) hm
noncomputable def tTest (t : TE) : TT:=fun σ H Q=>t σ H fun x H'=>∃ k,x = .bl k∧Q k H'
theorem pt_cmpR {op : CmpOp} {r : R2} (ho : OpR X (compareOp op) r) (ha : PE X a ta) (hb : PE X b tb) (hm : behindInMarks op b = false) : PT X (.Compare a [op] [b] pos) (tTest (tOp r ta tb)):=by
  intro pins s σ H Q I h
  refine wpAny_isTrue_Compare1 (thn (ha pins s σ H _ I h) fun v s1 ⟨x,H1,I1,r1,q1⟩=>thn (hb pins s1 σ H1 _ I1 q1) fun u s2 ⟨y,H2,I2,r2,q2⟩ =>
    thn (ho pins s2 σ H2 x y v u _ I2 r1 r2 q2) fun c s3 ⟨z,H3,I3,r3,k,e,q3⟩=>?_) hm
  subst e
  cases r3
  exact wpAny_truthy_bool ⟨H3,I3,q3⟩
noncomputable def TruV (K : PySem.W.Frag) (x : V) (H : Hp) (k : Bool) : Prop :=
  match x with
  | .non=>k = false
  | .bl b=>k = b
  | .int i=>k = (i != 0)
  | .str y=>y.length ≤ sizeLine∧k = ((y.length : Int) != 0)
  | .byt y=>y.size ≤ sizeLine∧k = ((y.size : Int) != 0)
  | .ref p=>(∃ xs,SqL K H p xs∧k = !xs.isEmpty)∨(∃ xs,SqT K H p xs∧k = !xs.isEmpty)∨∃ kvs,H p = some (.dK kvs)∧k = !kvs.isEmpty
  | _=>False
theorem isEmpty_kv {κ : Type} {kvs : List (κ × V)} {vs : List (κ × Value)} (r : KV kvs vs) : (!vs.isEmpty) = !kvs.isEmpty:=by
  cases r <;> rfl
theorem isEmpty_of {xs : List V} {its : List Value} (r : Vals xs its) : (!its.toArray.isEmpty) = !xs.isEmpty:=by
  cases r <;> simp
theorem line63 : (sizeLine : Nat) < 2 ^ 63:=by rw [sizeLine_eq]; decide
theorem tru_ok : TruR X (fun x H Q=>∃ k,TruV X.K x H k∧Q k H):=by
  intro pins s σ H x v Q I rx h
  obtain ⟨k,e,q⟩:=h
  have hl:=line63
  have hs : sizeLine = 16777216:=sizeLine_eq
  cases x with
  | non =>
    cases rx
    have e' : k = false:=e
    subst e'
    exact truthy_none ⟨H,I,q⟩
  | bl b =>
    cases rx
    have e' : k = b:=e
    subst e'
    exact wpAny_truthy_bool ⟨H,I,q⟩
  | int i =>
    obtain ⟨t,rfl⟩:=rx
    have e' : k = (i != 0):=e
    subst e'
    exact PySem.P.truthy_int ⟨H,I,q⟩
  | str y =>
    obtain ⟨t,rfl⟩:=rx
    obtain ⟨hy,e'⟩ : y.length ≤ sizeLine∧k = ((y.length : Int) != 0):=e
    subst e'
    exact PySem.P.truthy_str (by omega) ⟨H,I.tok _,q⟩
  | byt y =>
    obtain ⟨t,rfl⟩:=rx
    obtain ⟨hy,e'⟩ : y.size ≤ sizeLine∧k = ((y.size : Int) != 0):=e
    subst e'
    exact PySem.W.truthy_bytes (by omega) ⟨H,I.tok _,q⟩
  | ref p =>
    cases rx
    have e' : (∃ xs,SqL X.K H p xs∧k = !xs.isEmpty)∨(∃ xs,SqT X.K H p xs∧k = !xs.isEmpty)∨∃ kvs,H p = some (.dK kvs)∧k = !kvs.isEmpty:=e
    rcases e' with ⟨xs,hx,e'⟩ | ⟨xs,hx,e'⟩ | ⟨kvs,hx,e'⟩
    · subst e'
      obtain ⟨its,r,pl,hz⟩:=I.list hx
      have hlen:=r.length
      exact wpAny_truthy_list pl.isList (by simp only [List.size_toArray]; omega) ⟨H,I.tok _,by rw [isEmpty_of r]; exact q⟩
    · subst e'
      obtain ⟨its,r,pl,hz⟩:=I.tuple hx
      have hlen:=r.length
      exact truthy_tuple pl (by simp only [List.size_toArray]; omega) ⟨H,I.tok _,by rw [isEmpty_of r]; exact q⟩
    · subst e'
      obtain ⟨hz,hS,vs,r,m⟩ : kvs.length ≤ sizeLine∧(p == sysModules) = false∧∃ vs,KV kvs vs∧s.heap.DictOf (mixKind X.prog X.w) p vs:=I.hok p _ hx
      have hlen : kvs.length = vs.length:=Paired.length r
      exact wpAny_truthy_dict hS m (by omega) ⟨H,I.tok _,by rw [isEmpty_kv r]; exact q⟩
  | _=>exact (show False from e).elim
theorem pt_truth (ha : PE X a ta) (he : ∀ whole,isTrue a X.env whole = (do let v ← whole; standAt a.pos; holding [v] (truthy v))) :
    PT X a (fun σ H Q=>ta σ H fun x H'=>∃ k,TruV X.K x H' k∧Q k H'):=by
  intro pins s σ H Q I h
  exact isTrue_plain (thn (ha pins s σ H _ I h) fun v s1 ⟨x,H1,I1,r1,q1⟩=>tru_ok pins s1 σ H1 x v Q I1 r1 q1) (he _)
theorem op_add_str : OpR X (binaryOp .Add) (fun x y H Q=>∃ i j,x = .str i∧y = .str j∧i.length + j.length ≤ sizeLine∧Q (.str (i++j)) H):=by
  intro pins s σ H x y v u Q I rx ry h
  obtain ⟨i,j,rfl,rfl,hz,q⟩:=h
  obtain ⟨t,rfl⟩:=rx
  obtain ⟨t',rfl⟩:=ry
  exact add_str (fun t' tk=>⟨.str (i++j),H,I.tok _,⟨_,rfl⟩,q⟩) hz
theorem vals1 {x : V} {us : List Value} (r : Vals [x] us) : ∃ u,us = [u]∧RelV x u:=by
  cases r with
  | cons r1 r2=>cases r2; exact ⟨_,rfl,r1⟩
theorem vals2 {x y : V} {us : List Value} (r : Vals [x,y] us) : ∃ u w',us = [u,w']∧RelV x u∧RelV y w':=by
  cases r with
  | cons r1 r2 =>
    cases r2 with
    | cons r3 r4=>cases r4; exact ⟨_,_,rfl,r1,r3⟩
theorem call_max2 (hc : X.calm = true) : CallR X (.builtin "max") (fun xs H Q=>∃ i j,xs = [.int i,.int j]∧Q (.int (if j > i then j else i)) H):=by
  intro pins s σ H xs us Q I r h
  obtain ⟨i,j,rfl,q⟩:=h
  obtain ⟨u,w',rfl,⟨t,rfl⟩,⟨t',rfl⟩⟩:=vals2 r
  refine max_two_ints (I.ok.hd hc) fun h' tk k=>⟨_,H,I.kept k,?_,q⟩
  by_cases hj : j > i
  · rw [if_pos hj,if_pos hj]; exact ⟨_,rfl⟩
  · rw [if_neg hj,if_neg hj]; exact ⟨_,rfl⟩
theorem call_min2 (hc : X.calm = true) : CallR X (.builtin "min") (fun xs H Q=>∃ i j,xs = [.int i,.int j]∧Q (.int (if j < i then j else i)) H):=by
  intro pins s σ H xs us Q I r h
  obtain ⟨i,j,rfl,q⟩:=h
  obtain ⟨u,w',rfl,⟨t,rfl⟩,⟨t',rfl⟩⟩:=vals2 r
  refine min_two_ints (I.ok.hd hc) fun h' tk k=>⟨_,H,I.kept k,?_,q⟩
  by_cases hj : j < i
  · rw [if_pos hj,if_pos hj]; exact ⟨_,rfl⟩
  · rw [if_neg hj,if_neg hj]; exact ⟨_,rfl⟩
theorem call_int1 : CallR X (.type "int") (fun xs H Q=>(∃ i,xs = [.int i]∧Q (.int i) H)∨∃ k,xs = [.bl k]∧Q (.int (if k then 1 else 0)) H):=by
  intro pins s σ H xs us Q I r h
  rcases h with ⟨i,rfl,q⟩ | ⟨k,rfl,q⟩
  · obtain ⟨u,rfl,t,rfl⟩:=vals1 r
    exact call_int_int ⟨.int i,H,I,⟨_,rfl⟩,q⟩
  · obtain ⟨u,rfl,r1⟩:=vals1 r
    cases r1
    exact call_int_bool ⟨.int (if k then 1 else 0),H,I.tok _,⟨_,rfl⟩,q⟩
theorem call_str_int : CallR X (.type "str") (fun xs H Q=>∃ i,xs = [.int i]∧i.natAbs.log2 < 1920∧Q (.str (toString i)) H):=by
  intro pins s σ H xs us Q I r h
  obtain ⟨i,rfl,hz,q⟩:=h
  obtain ⟨u,rfl,t,rfl⟩:=vals1 r
  exact PySem.P.str_of_int hz ⟨.str _,H,I.tok _,⟨_,rfl⟩,q⟩
end
end L2
namespace L2
open PySem PySem.Spec PyProof.Rows
structure ObjM (h : Heap) (x dx C : Addr) (mA : Str→Option Value) : Prop where
  obj : h.get? x = some (PySem.W.instObj C dx)
  ns : h.Ns1 dx mA
  ne : dx ≠ x
section
variable {prog : Program} {w : World} {A : Around} {E : Value→Shared→Prop} {s : Shared} {K : PySem.W.Frag} {x dx C f : Addr} {mA : Str→Option Value} {name : Str} {v : Value}
end
section
variable {P : Program} {w : World} {H H' : Hp} {h h' : Heap} {a C dx : Addr} {fs fs' : List (Str × V)}
end
structure Cls (K : PySem.W.Frag) (C : Addr) : Prop where
  pg : PySem.W.plainGet K C Str.empty = true
  hd : PySem.W.hasDictIn K C = true
  po : PySem.W.plainOver K C = true
  sa : PySem.W.findIn K (.ref C) "__setattr__" = some (some (.builtin "object.__setattr__"))
theorem Cls.get {K : PySem.W.Frag} {C : Addr} (c : Cls K C) (f : Str) : PySem.W.plainGet K C f = true:=c.pg
structure Con (K : PySem.W.Frag) (C : Addr) (f : Str) (v : V) (u : Value) : Prop where
  at_ : PySem.W.findIn K (.ref C) f = some (some u)
  rel : RelV v u
  get : PySem.W.specialIn K u "__get__" = some none
  cp : PySem.W.copiedNames.contains f = false
structure Meth (K : PySem.W.Frag) (C : Addr) (m : Str) (f : Addr) : Prop where
  at_ : PySem.W.findIn K (.ref C) m = some (some (.ref f))
  fn : PySem.W.isFn K (.ref f) = true
  kp : PySem.W.keepIn K (.ref f) = true
section
variable {X : Cx} {pins : List (Addr × Obj)} {σ : St} {H : Hp} {s : Shared} {a C dx : Addr} {fs : List (Str × V)} {f : Str} {v : V} {A : Around} {E : Value→Shared→Prop}
theorem Inv.made (I : Inv X pins σ H s) : Inv X pins σ (upd (upd H s.heap.objs.size (.own (s.heap.objs.size + 1))) (s.heap.objs.size + 1) (.ins C s.heap.objs.size []))
    { s with heap:=(s.heap.push PySem.W.emptyDict).push (PySem.W.instObj C s.heap.objs.size) }:=by
  have e1 : (s.heap.push PySem.W.emptyDict).get? s.heap.objs.size = some PySem.W.emptyDict:=Heap.get?_push_size s.heap rfl
  have e2 : ((s.heap.push PySem.W.emptyDict).push (PySem.W.instObj C s.heap.objs.size)).get? (s.heap.objs.size + 1) = some (PySem.W.instObj C s.heap.objs.size):=by
    have:=Heap.get?_push_size (s.heap.push PySem.W.emptyDict) (o:=PySem.W.instObj C s.heap.objs.size) rfl
    rwa [Heap.size_push] at this
  have e3 : (s.heap.push PySem.W.emptyDict).Ns s.heap.objs.size (fun _=>none):=⟨PySem.W.emptyDict,#[],_,e1,rfl,(fun e he=>absurd he (by simp)),fun _=>rfl⟩
  have I1:=I.laid (a:=s.heap.objs.size) (o:=.own (s.heap.objs.size + 1)) (h':=s.heap.push PySem.W.emptyDict) (t':=s.toks) (fun b u q=>Heap.get?_push_of_some _ q) (Nat.le_refl _) ⟨_,e1⟩
  refine I1.laid (a:=s.heap.objs.size + 1) (o:=.ins C s.heap.objs.size []) (t':=s.toks) (fun b u q=>Heap.get?_push_of_some _ q) (Nat.le_of_eq (Heap.size_push _ _)) ?_
  have ne : s.heap.objs.size ≠ s.heap.objs.size + 1:=Nat.ne_of_lt (Nat.lt_succ_self _)
  refine ⟨by rw [upd_ne ne,upd_same],Nat.zero_le _,ne,e2,fun _=>none,(Heap.Ns1.of_empty e3).at fun o q=>Heap.get?_push_of_some _ q,fun _=>True.intro,fun y hy=>absurd rfl hy⟩
end
section
variable {X : Cx} {o e value : Expr} {f : Str} {pos pos' tpos : Pos} {ta tv : TE}
end
section
variable {X : Cx} {pins : List (Addr × Obj)} {σ : St} {H : Hp} {s : Shared} {A : Around} {E : Value→Shared→Prop} {Q : Value→Shared→Prop} {c : Value} {b : Bool}
inductive TyOf (K : PySem.W.Frag) (H : Hp) : V→Value→Prop where
  | non : TyOf K H .non (.type "NoneType")
  | bl (x : Bool) : TyOf K H (.bl x) (.type "bool")
  | int (i : Int) : TyOf K H (.int i) (.type "int")
  | str (x : Str) : TyOf K H (.str x) (.type "str")
  | flt (x : UInt64) : TyOf K H (.flt x) (.type "float")
  | lst {a : Addr} {xs : List V} (e : H a = some (.lst xs)) : TyOf K H (.ref a) (.type "list")
  | frz {a : Addr} {o : Obj} {xs : List V} (e : H a = some (.frz o (.lst xs))) : TyOf K H (.ref a) (.type "list")
  | tup {a : Addr} {xs : List V} (e : H a = some (.tup xs)) : TyOf K H (.ref a) (.type "tuple")
  | dK {a : Addr} {kvs : List (Key × V)} (e : H a = some (.dK kvs)) : TyOf K H (.ref a) (.type "dict")
  | dT {a : Addr} {kvs : List (List Key × V)} (e : H a = some (.dT kvs)) : TyOf K H (.ref a) (.type "dict")
  | ins {a C dx : Addr} {fs : List (Str × V)} (e : H a = some (.ins C dx fs)) (cl : Cls K C) (ha : PySem.W.findIn K (.ref C) "__class__" = some (some (.builtin "object.__class__")))
      (hn : PySem.W.specialIn K (.builtin "object.__class__") "__get__" = some (some (.builtin "getset_descriptor.__get__"))) (htk : PySem.W.takesIn K (.builtin "object.__class__") = some true)
      (hm : PySem.W.mroIn K C (.type "object") = some true) : TyOf K H (.ref a) (.ref C)
end
end L2
namespace L2
open PySem PySem.Spec PyProof.Rows
structure Room (k : Nat) (A : Around) : Prop where
  hd : A.handled = none
  dp : A.depth + 3 * k + 5 < recursionLimit
  un : A.units + 16 * k + 200 < cLine
theorem Room.mono {j k : Nat} {A : Around} (r : Room k A) (h : j ≤ k) : Room j A:=⟨r.hd,by have:=r.dp; omega,by have:=r.un; omega⟩
theorem Room.deeper {k : Nat} {A : Around} (r : Room (k + 1) A) (env : Env) : Room k (A.deeper env) :=
  ⟨r.hd,by have:=r.dp; show A.depth + 1 + 3 * k + 5 < _; omega,by have:=r.un; show A.units + 3 + 16 * k + 200 < _; omega⟩
theorem Room.in1 {k : Nat} {A : Around} (r : Room (k + 1) A) : Room k A.in1 :=
  ⟨r.hd,by have:=r.dp; show A.depth + 3 * k + 5 < _; omega,by have:=r.un; show A.units + 1 + 16 * k + 200 < _; omega⟩
theorem Room.depth {k : Nat} {A : Around} (r : Room k A) : A.depth < recursionLimit:=by have:=r.dp; omega
theorem Room.units {k : Nat} {A : Around} (r : Room k A) : A.units + 64 < cLine:=by have:=r.un; omega
noncomputable def tNil : TA:=fun _ H Q=>Q [] H
noncomputable def tCons (ta : TE) (tr : TA) : TA:=fun σ H Q=>ta σ H fun x H1=>tr σ H1 fun xs H2=>Q (x::xs) H2
section
variable {X : Cx} {e : Expr} {es : List Expr} {te : TE} {t : TA} {pos : Pos}
theorem pa_nil : PA X [] tNil:=fun _ _ _ _ H Q I h=>Calls.spliced_nil ⟨[],H,I,.nil,h⟩
theorem pa_cons (ha : PE X e te) (hr : PA X es t) (hs : starEach (e::es) X.env = (false,eval e X.env)::starEach es X.env:=by rfl) : PA X (e::es) (tCons te t):=by
  intro pos pins s σ H Q I h
  rw [hs]
  show wpAny _ _ (spliced ((false,eval e X.env)::backTo pos (starEach es X.env))) _ _ s
  refine Calls.spliced_cons (thn (ha pins s σ H _ I h) fun u s1 ⟨x,H1,I1,r1,q1⟩=>?_)
  exact thn (hr pos pins s1 σ H1 _ I1 q1) fun us s2 ⟨xs,H2,I2,r2,q2⟩=>⟨x::xs,H2,I2,.cons r1 r2,q2⟩
noncomputable def tTup (t : TA) : TE:=fun σ H Q=>t σ H fun xs H1=>xs.length ≤ sizeLine∧∀ p,H1 p = none→Q (.ref p) (upd H1 p (.tup xs))
noncomputable def tLst (t : TA) : TE:=fun σ H Q=>t σ H fun xs H1=>xs.length ≤ sizeLine∧∀ p,H1 p = none→Q (.ref p) (upd H1 p (.lst xs))
theorem pe_tup {x1} (h : PA X es t) : PE X (.Tuple es x1 pos) (tTup t):=by
  intro pins s σ H Q I hq
  refine wpAny_Tuple_spliced (thn (h pos pins s σ H _ I hq) fun us s1 ⟨xs,H1,I1,r,z,q⟩=>⟨by rw [← r.length]; exact z,?_⟩)
  have hf : H1 s1.heap.objs.size = none:=I1.hok.fresh (Nat.le_refl _)
  refine ⟨.ref s1.heap.objs.size,upd H1 s1.heap.objs.size (.tup xs),I1.laid (t':=s1.toks) (fun b u e=>Heap.get?_push_of_some _ e) (Nat.le_refl _) ?_,rfl,q _ hf⟩
  exact ⟨z,us,r,⟨_,Heap.get?_push_size _ rfl,rfl,_,rfl⟩⟩
theorem pe_lst (h : PA X es t) : PE X (.List es pos) (tLst t):=by
  intro pins s σ H Q I hq
  refine wpAny_List_spliced (thn (h pos pins s σ H _ I hq) fun us s1 ⟨xs,H1,I1,r,z,q⟩=>⟨by rw [← r.length]; exact z,?_⟩)
  have hf : H1 s1.heap.objs.size = none:=I1.hok.fresh (Nat.le_refl _)
  refine ⟨.ref s1.heap.objs.size,upd H1 s1.heap.objs.size (.lst xs),I1.laid (t':=s1.toks) (fun b u e=>Heap.get?_push_of_some _ e) (Nat.le_refl _) ?_,rfl,q _ hf⟩
  exact ⟨z,us,0,r,Heap.get?_push_size _ rfl⟩
end
noncomputable abbrev Sp:=List V→Hp→VK→XK→Prop
noncomputable abbrev CXT:=List Env→Hp→Shared→XK→Value→Shared→Prop
structure Env0 (P : Program) (w : World) (K : PySem.W.Frag) (mg : Str→Option Value) (base : Heap) (A : Around) (outer : List Env) (s : Shared) (H : Hp) : Prop where
  frames : A.frames = some outer
  mod : Mod K mg base
  bs : ∀ b o,base.get? b = some o→s.heap.get? b = some o∧H b = none
  bsz : base.objs.size ≤ s.heap.objs.size
  funs : s.heap.FunFrames base outer
  frf : ∀ b ∈ frs outer,H b = none
  hok : HOk P w H s.heap
  bare : AllBare s.gens
noncomputable def CE (outer : List Env) (P : Program) (w : World) (H : Hp) (s : Shared) (Q : VK) (u : Value) (s' : Shared) : Prop :=
  ∃ v H',s'.os = s.os∧AllBare s'.gens∧Un (frs outer) [] H H' s.heap s'.heap∧HOk P w H' s'.heap∧RelV v u∧Q v H'
noncomputable def CR (CX : CXT) (outer : List Env) (P : Program) (w : World) (H : Hp) (s : Shared) (Q : VK) (E : XK) (r : Result) (s' : Shared) : Prop :=
  match r with
  | .ok (.ret u)=>CE outer P w H s Q u s'
  | .ok _=>False
  | .error e=>CX outer H s E e s'
structure FnOk (P : Program) (w : World) (K : PySem.W.Frag) (mg : Str→Option Value) (base : Heap) (CX : CXT) (k : Nat) (f : Addr) (fd : FuncData) (ps : List Str) (sp : Sp) : Prop where
  len : ∀ vs H Q E,sp vs H Q E→vs.length = ps.length
  run : ∀ (A : Around) (outer : List Env) (s : Shared) (H : Hp) (args : Args) (us : List Value) (vs : List V) (Q : VK) (E : XK),Room k A→Env0 P w K mg base A outer s H→BindsTo s fd args (ps.zip us)→Vals vs us→sp vs H Q E →
    codeAny (model P w) A (.call (.ref f) args) (CR CX outer P w H s Q E) s
theorem FnOk.mono {P : Program} {w : World} {K : PySem.W.Frag} {mg : Str→Option Value} {base : Heap} {CX : CXT} {j k : Nat} {f : Addr} {fd : FuncData} {ps : List Str} {sp : Sp} (F : FnOk P w K mg base CX j f fd ps sp) (h : j ≤ k) :
    FnOk P w K mg base CX k f fd ps sp:=⟨F.len,fun A outer s H args us vs Q E hr=>F.run A outer s H args us vs Q E (hr.mono h)⟩
theorem FnOk.imp {P : Program} {w : World} {K : PySem.W.Frag} {mg : Str→Option Value} {base : Heap} {CX : CXT} {k : Nat} {f : Addr} {fd : FuncData} {ps : List Str} {sp sp' : Sp} (F : FnOk P w K mg base CX k f fd ps sp)
    (h : ∀ vs H Q E,sp' vs H Q E→sp vs H Q E) : FnOk P w K mg base CX k f fd ps sp' :=
  ⟨fun vs H Q E q=>F.len vs H Q E (h _ _ _ _ q),fun A outer s H args us vs Q E hr he hb hv hs=>F.run A outer s H args us vs Q E hr he hb hv (h _ _ _ _ hs)⟩
theorem Env0.in1 {P : Program} {w : World} {K : PySem.W.Frag} {mg : Str→Option Value} {base : Heap} {A : Around} {outer : List Env} {s : Shared} {H : Hp} (e : Env0 P w K mg base A outer s H) :
    Env0 P w K mg base A.in1 outer s H:=⟨e.frames,e.mod,e.bs,e.bsz,e.funs,e.frf,e.hok,e.bare⟩
section
variable {X : Cx} {pins : List (Addr × Obj)} {σ : St} {H : Hp} {s s' : Shared}
theorem Inv.env0 (I : Inv X pins σ H s) : Env0 X.prog X.w X.K X.mg X.base X.A X.stack s H :=
  ⟨I.ok.frames,I.ok.mod,I.bs,Nat.le_trans I.ok.bsz I.sz,I.stack,I.stkFree,I.hok,I.bare⟩
theorem Inv.after {Q : VK} {u : Value} (I : Inv X pins σ H s) (h : CE X.stack X.prog X.w H s Q u s') : EP X pins σ Q u s':=by
  obtain ⟨v,H',os,bare,un,hok,r,q⟩:=h
  obtain ⟨hh,g,d,t,os'⟩:=s'
  obtain rfl : os' = s.os:=os
  exact ⟨v,H',I.call (h':=hh) (g':=g) (d':=d) (t':=t) (ch:=[]) un hok bare (fun b z=>absurd z (by simp)),r,q⟩
end
noncomputable def tCall (sp : Sp) (dvs : List V) (E : XK) (t : TA) : TE:=fun σ H Q=>t σ H fun vs H1=>sp (vs++dvs) H1 Q E
noncomputable def Binds (K : PySem.W.Frag) (fd : FuncData) (ps : List Str) (ds : List Value) : Prop :=
  ∀ (s : Shared) (us : List Value),K.In s.heap→(us++ds).length = ps.length→BindsTo s fd ⟨us,[]⟩ (ps.zip (us++ds))
theorem Binds.all {K : PySem.W.Frag} {fd : FuncData} {ps : List Str} (h : ∀ us : List Value,us.length = ps.length→bindArgs fd ⟨us,[]⟩ = pure (ps.zip us)) : Binds K fd ps []:=fun s us _ hl=>by
  rw [List.append_nil] at hl ⊢
  exact .of_eq (h us hl)
noncomputable def Passes (CX : CXT) (X : Cx) (E : XK) : Prop:=∀ (pins : List (Addr × Obj)) (σ : St) (H : Hp) (s : Shared) (e : Value) (s' : Shared),Inv X pins σ H s→CX X.stack H s E e s'→X.xe e s'
section
variable {X : Cx} {CX : CXT} {k : Nat} {f C : Addr} {fd : FuncData} {ps : List Str} {sp : Sp} {dvs : List V} {ds : List Value} {E : XK} {x m : Str} {p pos apos : Pos} {e o : Expr} {es : List Expr} {ta : TE} {t : TA}
theorem run_fn {pins : List (Addr × Obj)} {σ : St} {H : Hp} {s : Shared} {Q : VK} {us : List Value} {vs : List V} (F : FnOk X.prog X.w X.K X.mg X.base CX k f fd ps sp) (hr : Room k X.A) (hb : Binds X.K fd ps ds) (hd : Vals dvs ds) (hx : Passes CX X E)
    (I : Inv X pins σ H s) (r : Vals vs us) (h : sp (vs++dvs) H Q E) : wpAny (model X.prog X.w) X.A (call (.ref f) us) (EP X pins σ Q) X.xe s:=by
  have r2 : Vals (vs++dvs) (us++ds):=r.append hd
  have hl : (us++ds).length = ps.length:=by rw [← r2.length]; exact F.len _ _ _ _ h
  refine wpAny_call (codeAny_mono (F.run X.A X.stack s H ⟨us,[]⟩ (us++ds) (vs++dvs) Q E hr I.env0 (hb s us I.kIn hl) r2 h) fun r s' hq=>?_)
  cases r with
  | error e=>exact hx pins σ H s e s' I hq
  | ok fl =>
    cases fl with
    | ret u=>exact I.after hq
    | next=>exact False.elim hq
    | brk=>exact False.elim hq
    | cont=>exact False.elim hq
theorem pe_call (F : FnOk X.prog X.w X.K X.mg X.base CX k f fd ps sp) (hr : Room k X.A) (hg : Gl X x) (hm : X.mg x = some (.ref f)) (hk : PySem.W.keepIn X.K (.ref f) = true) (hb : Binds X.K fd ps ds) (hd : Vals dvs ds) (hx : Passes CX X E)
    (ha : PA X (e::es) t) (hdb : (x == ("__debug__" : Str)) = false:=by decide) (he : starEach (e::es) X.env = (false,eval e X.env)::starEach es X.env:=by rfl) (hpl : (backTo pos (starEach es X.env)).any (·.1) = false:=by rfl) :
    PE X (.Call (.Name x p) (e::es) [] pos) (tCall sp dvs E t):=by
  intro pins s σ H Q I h
  refine wpAny_Call_Name_kw (ld_glob I hg hm ?_ hdb)
  refine PySem.W.callWith_K (h₀:=X.base) I.ok.mod.kin hk (thn (ha pos pins s σ H _ I h) fun us s1 ⟨vs,H1,I1,r,q⟩=>⟨I1.kIn,?_⟩) he hpl
  exact run_fn F hr hb hd hx I1 r q
structure Mk (K : PySem.W.Frag) (C f : Addr) : Prop where
  makes : PySem.W.makesIn K C = true
  init : PySem.W.findIn K (.ref C) "__init__" = some (some (.ref f))
  fn : PySem.W.isFn K (.ref f) = true
  kp : PySem.W.keepIn K (.ref C) = true
end
section
variable {X : Cx} {CX : CXT} {k : Nat} {f C : Addr} {fd : FuncData} {ps ks : List Str} {sp : Sp} {E : XK} {x m : Str} {p pos apos kpos : Pos} {e o : Expr} {es : List Expr} {kws : List Keyword} {te ta : TE} {t tk : TA} {nm : Option Str}
structure KBinds (K : PySem.W.Frag) (fd : FuncData) (ps ks : List Str) (g : List Value→List Value→List Value) (gV : List V→List V→List V) : Prop where
  to : ∀ (s : Shared) (us ws : List Value),K.In s.heap→(g us ws).length = ps.length→BindsTo s fd ⟨us,ks.zip ws⟩ (ps.zip (g us ws))
  rel : ∀ {vs : List V} {us : List Value} {zs : List V} {ws : List Value},Vals vs us→Vals zs ws→Vals (gV vs zs) (g us ws)
variable {g : List Value→List Value→List Value} {gV : List V→List V→List V}
end
structure FnScope (N P : List Str) (sc : Scope) : Prop where
  kind : sc.kind = .function
  co : sc.isCoroutine = false
  gen : sc.isGenerator = false
  nd : N.Nodup
  pre : N.take P.length = P
  par : ∀ x ∈ P,sc.names.lookup x = some .local∨sc.names.lookup x = some .cell
  nofree : ∀ y ∈ sc.names,y.2 ≠ .free
theorem bindL_out {kindOf : Str→Option NameKind} {x : Str} : ∀ {binds : List (Str × Value)} {m : Str→Option Value},(∀ v,(x,v) ∉ binds)→bindL kindOf binds m x = m x
  | [],_,_=>rfl
  | (n,v)::r,m,h=>by
    unfold bindL
    rw [bindL_out fun w hw=>h w (List.mem_cons_of_mem _ hw)]
    split
    · have : x ≠ n:=by rintro rfl; exact h v List.mem_cons_self
      simp [this]
    · rfl
theorem bindC_out {kindOf : Str→Option NameKind} {x : Str} : ∀ {binds : List (Str × Value)} {m : Str→Option Value},(∀ v,(x,v) ∉ binds)→bindC kindOf binds m x = m x
  | [],_,_=>rfl
  | (n,v)::r,m,h=>by
    unfold bindC
    rw [bindC_out fun w hw=>h w (List.mem_cons_of_mem _ hw)]
    split
    · rfl
    · have : x ≠ n:=by rintro rfl; exact h v List.mem_cons_self
      simp [this]
theorem bindL_get {kindOf : Str→Option NameKind} {x : Str} {v : Value} : ∀ {P : List Str} {vs : List Value} {i : Nat} {m : Str→Option Value},P.Nodup→P[i]? = some x→vs[i]? = some v→kindOf x = some .local →
    bindL kindOf (P.zip vs) m x = some v
  | [],_,_,_,_,h,_,_=>by simp at h
  | _::_,[],_,_,_,_,h,_=>by simp at h
  | p::P,w::vs,0,m,nd,h1,h2,hk=>by
    simp at h1 h2; subst h1; subst h2
    show bindL kindOf ((p,w)::P.zip vs) m p = _
    unfold bindL
    rw [bindL_out fun v hv=>(List.nodup_cons.mp nd).1 (List.of_mem_zip hv).1,if_pos hk]
    simp
  | p::P,w::vs,i + 1,m,nd,h1,h2,hk=>by
    show bindL kindOf ((p,w)::P.zip vs) m x = _
    unfold bindL
    exact bindL_get (i:=i) (List.nodup_cons.mp nd).2 (by simpa using h1) (by simpa using h2) hk
theorem bindC_get {kindOf : Str→Option NameKind} {x : Str} {v : Value} : ∀ {P : List Str} {vs : List Value} {i : Nat} {m : Str→Option Value},P.Nodup→P[i]? = some x→vs[i]? = some v→kindOf x ≠ some .local →
    bindC kindOf (P.zip vs) m x = some v
  | [],_,_,_,_,h,_,_=>by simp at h
  | _::_,[],_,_,_,_,h,_=>by simp at h
  | p::P,w::vs,0,m,nd,h1,h2,hk=>by
    simp at h1 h2; subst h1; subst h2
    show bindC kindOf ((p,w)::P.zip vs) m p = _
    unfold bindC
    rw [bindC_out fun v hv=>(List.nodup_cons.mp nd).1 (List.of_mem_zip hv).1,if_neg hk]
    simp
  | p::P,w::vs,i + 1,m,nd,h1,h2,hk=>by
    show bindC kindOf ((p,w)::P.zip vs) m x = _
    unfold bindC
    exact bindC_get (i:=i) (List.nodup_cons.mp nd).2 (by simpa using h1) (by simpa using h2) hk
noncomputable def start (N : List Str) (vs : List V) : St:=vs.map some++List.replicate (N.length - vs.length) none
noncomputable def cxOf (CX : CXT) (P : Program) (w : World) (K : PySem.W.Frag) (mg : Str→Option Value) (base : Heap) (N : List Str) (qual : Str) (scope : Scope) (f : Addr) (cd : Value) (A : Around) (outer : List Env) (s : Shared) (H : Hp) (E : XK) : Cx where
  prog:=P
  w:=w
  K:=K
  mg:=mg
  base:=base
  A:=A.deeper (envOfC qual scope s.heap.objs.size f cd)
  N:=N
  s₀:=s
  H₀:=H
  env:=envOfC qual scope s.heap.objs.size f cd
  outer:=outer
  stack:=envOfC qual scope s.heap.objs.size f cd::outer
  ex:=[]
  calm:=true
  fn:=fun _=>true
  pn:=[]
  xe:=fun e s'=>wpAny (model P w) (A.deeper (envOfC qual scope s.heap.objs.size f cd)) (leaving (envOfC qual scope s.heap.objs.size f cd) e) (fun _ s''=>CX outer H s E e s'') (fun e' s''=>CX outer H s E e' s'') s'
theorem cell_has {sc : Scope} {n : Nat} {x : Str} (h : sc.names.lookup x = some .cell) : ∃ c,(cellsFrom n sc.names []).lookup x = some c:=by
  have q:=PySem.W.cellsFrom_some sc.names n [] (.inl h)
  exact Option.isSome_iff_exists.mp q
theorem inv_start {CX : CXT} {P : Program} {w : World} {K : PySem.W.Frag} {mg : Str→Option Value} {base : Heap} {N ps : List Str} {qual : Str} {scope : Scope} {f : Addr} {cd : Value} {A : Around} {outer : List Env} {s s1 : Shared} {H : Hp} {E : XK} {us : List Value} {vs : List V}
    (S : FnScope N ps scope) (hd : A.handled = none) (e0 : Env0 P w K mg base A outer s H) (hl : vs.length = ps.length) (r : Vals vs us)
    (x : InCallC s s.heap.objs.size (bindL (envOfC qual scope s.heap.objs.size f cd).kindOf (ps.zip us) fun _=>none) (cellsFrom (s.heap.objs.size + 1) scope.names []) (bindC (envOfC qual scope s.heap.objs.size f cd).kindOf (ps.zip us) fun _=>none) s1) :
    Inv (cxOf CX P w K mg base N qual scope f cd A outer s H E) [] (start N vs) H s1:=by
  have hpl : ps.length ≤ N.length:=by have:=congrArg List.length S.pre; rw [List.length_take] at this; omega
  obtain ⟨h1,tk,rfl,hk⟩:=x.done
  have noA : ∀ b : Addr,b ∉ (cxOf CX P w K mg base N qual scope f cd A outer s H E).ex:=fun b z=>absurd (show b ∈ ([] : List Addr) from z) (by simp)
  refine ⟨⟨e0.mod,S.kind,rfl,rfl,Nat.le_refl _,fun y z c h1 h2=>?_,fun y hy=>?_,fun y c _ h=>?_,fun _=>hd,Around.frames_deeper e0.frames,.inr ⟨rfl,rfl⟩,fun b z=>absurd z (noA b),e0.bs,e0.bsz,fun b _ _=>noA b,fun b z=>absurd z (noA b),e0.funs,e0.frf⟩,
    rfl,e0.bare,Un.kept hk,⟨_,x.toInCall.ns,fun i y v h1 h2 h3=>?_⟩,fun y c h=>⟨_,x.cell y c h⟩,e0.hok.fresh (Nat.le_refl _),fun y c h=>?_,fun p hp=>absurd (show p ∈ ([] : List (Addr × Obj)) from hp) (by simp),e0.hok.kept hk,?_⟩
  · exact name_of_addr x.apart (PySem.mem_of_lookup h1) (PySem.mem_of_lookup h2)
  · have hy : scope.names.lookup y = some .cell∨scope.names.lookup y = some .free:=hy
    rcases hy with hy | hy
    · exact cell_has hy
    · exact absurd rfl (S.nofree _ (PySem.mem_of_lookup hy))
  · exact Nat.le_of_lt (x.above y c (PySem.mem_of_lookup h))
  · have hi : i < vs.length:=by
      unfold start at h2
      by_cases hi : i < vs.length
      · exact hi
      · rw [List.getElem?_append_right (by simpa using hi)] at h2
        rw [List.getElem?_replicate] at h2
        split at h2 <;> cases h2
    have ha : vs[i]? = some v:=by
      unfold start at h2
      rw [List.getElem?_append_left (by simpa using hi),List.getElem?_map] at h2
      cases e : vs[i]? with
      | none=>rw [e] at h2; cases h2
      | some a=>rw [e] at h2; cases h2; rfl
    obtain ⟨u,hu,rv⟩:=r.get ha
    have hp : ps[i]? = some y:=by
      rw [← S.pre,List.getElem?_take_of_lt (by omega)]; exact h1
    have ndP : ps.Nodup:=by rw [← S.pre]; exact S.nd.sublist (List.take_sublist _ _)
    refine ⟨u,rv,?_⟩
    rcases S.par y (List.mem_of_getElem? hp) with k | k
    · exact .inl ⟨k,bindL_get ndP hp hu k⟩
    · obtain ⟨c,e⟩:=cell_has (n:=s.heap.objs.size + 1) k
      refine .inr ⟨.inl k,c,e,?_⟩
      have q:=x.cell y c e
      rw [bindC_get ndP hp hu (by show scope.names.lookup y ≠ _; rw [k]; decide)] at q
      exact q
  · exact e0.hok.fresh (Nat.le_of_lt (x.above y c (PySem.mem_of_lookup h)))
  · unfold start
    show _ = N.length
    rw [List.length_append,List.length_map,List.length_replicate]
    omega
theorem fn_of {CX : CXT} {P : Program} {w : World} {K : PySem.W.Frag} {mg : Str→Option Value} {base : Heap} {k : Nat} {f : Addr} {name qual : Str} {params : Arguments} {body : List Stmt} {scope : Scope} {dV kV doc pm cdv ct oc : Value} {an od : Option Addr}
    {osl : Array (Option Value)} {N ps : List Str} {sp : Sp} (lk : K.lookup f = some ⟨oc,od,.func (PySem.W.fnOf name qual params body scope dV kV doc pm an cdv ct),osl⟩) (hcd : PySem.W.codeIn K cdv qual = true) (S : FnScope N ps scope)
    (len : ∀ vs H Q E,sp vs H Q E→vs.length = ps.length)
    (hbody : ∀ (A : Around) (outer : List Env) (s : Shared) (H : Hp) (vs : List V) (Q : VK) (E : XK),Room k (A.deeper (envOfC qual scope s.heap.objs.size f cdv))→sp vs H Q E →
      ∃ t,PSs (cxOf CX P w K mg base N qual scope f cdv A outer s H E) body t∧t { nx:=fun _ H'=>Q .non H',rt:=Q } (start N vs) H) :
    FnOk P w K mg base CX (k + 1) f (PySem.W.fnOf name qual params body scope dV kV doc pm an cdv ct) ps sp:=by
  refine ⟨len,fun A outer s H args us vs Q E hr e0 hb r hsp=>?_⟩
  have hl:=len _ _ _ _ hsp
  have KX : K.In s.heap:=e0.mod.kin.keeps fun b o e=>(e0.bs b o e).1
  have lim : s.heap.NoLimit:=e0.mod.nolimit.keeps fun b o e=>(e0.bs b o e).1
  have hkind : ∀ y ∈ ps.zip us,scope.names.lookup y.1 = some .local∨(scope.names.lookup y.1 = some .cell∧((cellsFrom (s.heap.objs.size + 1) scope.names []).lookup y.1).isSome = true):=fun ⟨n,v⟩ hy=>by
    rcases S.par n (List.of_mem_zip hy).1 with q | q
    · exact .inl q
    · exact .inr ⟨q,PySem.W.cellsFrom_some _ _ _ (.inl q)⟩
  refine codeAny_call_function hr.depth (KX _ _ lk) rfl S.co S.gen rfl (PySem.W.codeRec_of KX hcd) (hb _ _ _ _ ?_)
  refine wpAny_newFunctionEnv_cells S.kind hkind fun env he s1 x=>?_
  subst he
  refine ⟨lim.keeps x.toInCall.keep,codeAny_func ?_⟩
  obtain ⟨t,ht,hq⟩:=hbody A outer s H vs Q E (hr.deeper _) hsp
  have I : Inv (cxOf CX P w K mg base N qual scope f cdv A outer s H E) [] (start N vs) H s1:=inv_start S hr.hd e0 hl r x
  refine wpAny_mono (ht [] s1 (start N vs) H _ I hq) (fun fl s' hs=>?_) fun e s' hs=>hs
  have fin : ∀ {σ' : St} {H' : Hp} {v : V} {u : Value},Inv (cxOf CX P w K mg base N qual scope f cdv A outer s H E) [] σ' H' s'→RelV v u→Q v H'→CE outer P w H s Q u s' :=
    fun {σ' H' v u} J rv q=>⟨v,H',J.os,J.bare,J.base,J.hok,rv,q⟩
  cases fl with
  | ret u =>
    obtain ⟨v,σ',H',J,rv,q⟩:=hs
    exact fin J rv q
  | next =>
    obtain ⟨σ',H',J,q⟩:=hs
    exact fin (v:=V.non) (u:=Value.none) J rfl q
  | brk =>
    obtain ⟨_,_,_,q⟩:=hs
    exact False.elim q
  | cont =>
    obtain ⟨_,_,_,q⟩:=hs
    exact False.elim q
end L2
namespace L2
open PySem PySem.Spec PyProof.Rows
section
variable {X : Cx} {x : Str} {p pos : Pos} {e : Expr} {es : List Expr} {t : TA} {id T : String} {r : List V→Hp→VK→Prop}
noncomputable def tCB (r : List V→Hp→VK→Prop) (t : TA) : TE:=fun σ H Q=>t σ H fun vs H1=>r vs H1 Q
theorem pe_callB (hc : CallR X (.builtin id) r) (hg : Gl X x) (hm : X.mg x = none) (hv : bootBuiltins x = some (.builtin id)) (ha : PA X (e::es) t) (hn : x ≠ "__name__":=by decide) (hdb : (x == ("__debug__" : Str)) = false:=by decide)
    (he : starEach (e::es) X.env = (false,eval e X.env)::starEach es X.env:=by rfl) (hpl : (backTo pos (starEach es X.env)).any (·.1) = false:=by rfl) : PE X (.Call (.Name x p) (e::es) [] pos) (tCB r t):=by
  intro pins s σ H Q I h
  refine wpAny_Call_Name_kw (ld_blt I hg hm hv ?_ hn hdb)
  exact PyProof.Rows.callWith_builtin1 (thn (ha pos pins s σ H _ I h) fun us s1 ⟨vs,H1,I1,r1,q1⟩=>hc pins s1 σ H1 vs us Q I1 r1 q1) he hpl
theorem pe_callTy (hc : CallR X (.type T) r) (hg : Gl X x) (hm : X.mg x = none) (hv : bootBuiltins x = some (.type T)) (ha : PA X (e::es) t) (hn : x ≠ "__name__":=by decide) (hdb : (x == ("__debug__" : Str)) = false:=by decide)
    (he : starEach (e::es) X.env = (false,eval e X.env)::starEach es X.env:=by rfl) (hpl : (backTo pos (starEach es X.env)).any (·.1) = false:=by rfl) : PE X (.Call (.Name x p) (e::es) [] pos) (tCB r t):=by
  intro pins s σ H Q I h
  refine wpAny_Call_Name_kw (ld_blt I hg hm hv ?_ hn hdb)
  exact PyProof.Rows.callWith_type1 (thn (ha pos pins s σ H _ I h) fun us s1 ⟨vs,H1,I1,r1,q1⟩=>hc pins s1 σ H1 vs us Q I1 r1 q1) he hpl
end
end L2
namespace HT
open PySem PyProof.Rows
section
open PySem.SeqAt
open PySem.AutoSeq1 (wpAny_loadPart')
open PySem.MeetsSeq PySem.MeetsSeq2 PySem.MeetsSeq3
end
section
variable {prog : Program} {w : World} {A : Around} {E : Value→Shared→Prop} {s : Shared}
theorem cat_tup {t b : Addr} {vs ws : List Value} {Q : Value→Shared→Prop} (ht : IsTup s.heap t vs.toArray) (hb : IsTup s.heap b ws.toArray) (hv : vs ≠ [])
    (h1 : ws = []→Q (.ref t) s) (h2 : ws ≠ []→Q (.ref s.heap.objs.size) { s with heap:=s.heap.push { cls:=.type "tuple",data:=.seq (vs++ws).toArray } })
    (hsz : vs.length + ws.length ≤ sizeLine) : wpAny (model prog w) A (binaryOp .Add (.ref t) (.ref b)) Q E s:=by
  obtain ⟨⟨cls,dd,data,sl⟩,ho,hc,n,hd⟩:=id ht
  obtain ⟨⟨cls2,dd2,data2,sl2⟩,ho2,hc2,n2,hd2⟩:=id hb
  simp only at hc hd hc2 hd2
  subst hc hd hc2 hd2
  have e : vs.toArray++ws.toArray = (vs++ws).toArray:=by simp
  by_cases hw : ws = []
  · exact concat_meets ⟨_,ho,rfl⟩ ⟨_,ho2,rfl⟩ noFill_tuple_add seq_tuple_add PySem.F.slot_tuple_add PySem.F.entry_tuple_add (PySem.F.args_tuple_add_2 _ _)
      (tuple_addW1 t b vs.toArray ws.toArray n n2 dd dd2 sl sl2 (by simpa using hv) (by simp [hw])) ⟨ho,ho2,h1 hw⟩
  · refine concat_meets ⟨_,ho,rfl⟩ ⟨_,ho2,rfl⟩ noFill_tuple_add seq_tuple_add PySem.F.slot_tuple_add PySem.F.entry_tuple_add (PySem.F.args_tuple_add_2 _ _)
      (tuple_addW2 t b vs.toArray ws.toArray n n2 dd dd2 sl sl2 (by simpa using hv) (by simpa using hw) (by rw [List.size_toArray,List.size_toArray]; exact hsz)) ⟨ho,ho2,?_⟩
    rw [e]
    exact h2 hw
noncomputable def sIx (n d : Nat) : Option Int→Nat
  | none=>d
  | some v=>if v < 0 then (v + (n : Int)).toNat else min v.toNat n
theorem sIx_le (n d : Nat) (hd : d ≤ n) (o : Option Int) : sIx n d o ≤ n:=by
  cases o with
  | none=>exact hd
  | some v =>
    show (if v < 0 then (v + (n : Int)).toNat else min v.toNat n) ≤ n
    by_cases hv : v < 0
    · rw [if_pos hv]; omega
    · rw [if_neg hv]; exact Nat.min_le_right _ _
theorem clip_eq (v : Int) (n d : Nat) : (if v < 0 then max (v + (n : Int)) 0 else min v (n : Int)) = ((sIx n d (some v) : Nat) : Int):=by
  show (if v < 0 then max (v + (n : Int)) 0 else min v (n : Int)) = (((if v < 0 then (v + (n : Int)).toNat else min v.toNat n) : Nat) : Int)
  by_cases hv : v < 0
  · simp only [if_pos hv]; omega
  · simp only [if_neg hv]; omega
theorem adjust_gen (lo hi : Option Int) (n : Nat) : Builtin.Slice.sliceAdjust lo hi 1 (n : Int) = (((sIx n 0 lo : Nat) : Int),((sIx n n hi : Nat) : Int)):=by
  have h1 : ¬ ((1 : Int) < 0):=by omega
  unfold Builtin.Slice.sliceAdjust
  simp only [h1,if_false]
  refine Prod.ext ?_ ?_
  · cases lo with
    | none=>rfl
    | some v=>exact clip_eq v n 0
  · cases hi with
    | none=>rfl
    | some v=>exact clip_eq v n n
theorem places_gen (i j : Nat) : Builtin.Slice.slicePlaces (i : Int) (j : Int) 1 = j - i:=by
  unfold Builtin.Slice.slicePlaces
  have h1 : (1 : Int) > 0:=by omega
  simp only [h1,if_true,Int.ediv_one]
  split <;> omega
theorem slicePart_ {v : Value} {o : Option Int} {Q : Option Int→Shared→Prop} (p : IsPart v o) (h : Q o s) : wpAny (model prog w) A (Builtin.Slice.slicePartIndex v) Q E s:=by
  cases p with
  | none=>exact slicePart_none h
  | int i t=>exact slicePart_int h
theorem sliceApplied_gen {sl : Addr} {vl vu : Value} {lo hi : Option Int} {n : Nat} {Q : Int × Int × Nat→Shared→Prop} (hs : s.heap.IsSliceOf sl vl vu .none) (pl : IsPart vl lo) (pu : IsPart vu hi)
    (h : Q (((sIx n 0 lo : Nat) : Int),1,sIx n n hi - sIx n 0 lo) s) : wpAny (model prog w) A (Builtin.Slice.sliceApplied (.ref sl) (pure (n : Int))) Q E s:=by
  obtain ⟨os,hos,hcs,hds⟩:=id hs
  unfold Builtin.Slice.sliceApplied Builtin.Slice.sliceFields
  refine wpAny_bind (wpAny_bind (wpAny_field hos hds (x:=vl) rfl (wpAny_bind (wpAny_field hos hds (x:=vu) rfl (wpAny_bind (wpAny_field hos hds (x:=.none) rfl (wpAny_pure ?_)))))))
  refine wpAny_bind (slicePart_none ?_)
  show wpAny _ _ (if ((1 : Int) == 0) = true then _ else _) _ _ s
  rw [if_neg (by decide)]
  refine wpAny_bind (slicePart_ pl (wpAny_bind (slicePart_ pu (wpAny_bind (wpAny_pure ?_)))))
  show wpAny _ _ (match Builtin.Slice.sliceAdjust lo hi 1 (n : Int) with | (lo,hi)=>pure (lo,(1 : Int),Builtin.Slice.slicePlaces lo hi 1)) _ _ s
  rw [adjust_gen lo hi n]
  show wpAny _ _ (pure (((sIx n 0 lo : Nat) : Int),(1 : Int),Builtin.Slice.slicePlaces ((sIx n 0 lo : Nat) : Int) ((sIx n n hi : Nat) : Int) 1)) _ _ s
  rw [places_gen]
  exact wpAny_pure h
theorem pick_gen (xs : Array Value) (i k : Nat) : ((List.range k).filterMap fun (m : Nat)=>xs[((i : Int) + (m : Int) * 1).toNat]?).toArray = ((xs.toList.drop i).take k).toArray:=by
  have e : (fun (m : Nat)=>xs[((i : Int) + (m : Int) * 1).toNat]?) = fun m=>xs[i + m]?:=by
    funext m
    have : ((i : Int) + (m : Int) * 1).toNat = i + m:=by omega
    rw [this]
  rw [e]
  have:=pick_run xs i k
  rw [List.filterMap_map] at this
  have e2 : ((fun x=>xs[x]?) ∘ fun x=>i + x) = fun m=>xs[i + m]?:=rfl
  rw [e2] at this
  rw [this]
theorem getItem_tuple_cut {t sl : Addr} {items : Array Value} {vl vu : Value} {lo hi : Option Int} {Q : Value→Shared→Prop} (ht : IsTup s.heap t items) (hs : s.heap.IsSliceOf sl vl vu .none) (pl : IsPart vl lo) (pu : IsPart vu hi)
    (hw : ¬ (sIx items.size 0 lo = 0∧sIx items.size items.size hi = items.size))
    (h : Q (.ref s.heap.objs.size) { s with heap:=s.heap.push { cls:=.type "tuple",data:=.seq ((items.toList.drop (sIx items.size 0 lo)).take (sIx items.size items.size hi - sIx items.size 0 lo)).toArray } })
    (hsz : items.size ≤ sizeLine) : wpAny (model prog w) A (getItem (.ref t) (.ref sl)) Q E s:=by
  have htake : sizeOk (.seq ((items.toList.drop (sIx items.size 0 lo)).take (sIx items.size items.size hi - sIx items.size 0 lo)).toArray):=by
    show ((items.toList.drop (sIx items.size 0 lo)).take (sIx items.size items.size hi - sIx items.size 0 lo)).toArray.size ≤ sizeLine
    rw [List.size_toArray,List.length_take,List.length_drop,Array.length_toList]
    omega
  have hj : sIx items.size items.size hi ≤ items.size:=sIx_le _ _ (Nat.le_refl _) hi
  obtain ⟨os,hos,hcs,hds⟩:=id hs
  have hTs : s.TypeIs (.ref sl) "slice":=⟨os,hos,hcs⟩
  unfold getItem
  try with_reducible refine wpAny_holding ?_
  first | refine wpAny_bind (wpAny_pure ?_) | skip
  refine wpAny_bind (wpAny_sequenceKey ht.typeIs (by decide) ?_)
  refine wpAny_bind (wpAny_callSpecial?_slot (name:=Str.ofString "__getitem__") ht.typeIs PyProof.Rows.slot_tuple_getitem
    (wpAny_call_entry PyProof.Rows.slot_tuple_getitem ht.typeIs entry_tuple_getitem ?_ (args_tuple_getitem _ _)))
  show wpAny _ _ (Builtin.Tuple.tupleItemsOf (.ref t) >>= _) _ _ s
  refine wpAny_bind (tupleItemsOf_ ht ?_)
  refine wpAny_bind (wpAny_typeOf hTs ?_)
  rw [if_pos (by decide)]
  refine wpAny_bind (sliceApplied_gen hs pl pu ?_)
  have hno : ¬ ((((sIx items.size 0 lo : Nat) : Int) == 0 && (1 : Int) == 1 && (sIx items.size items.size hi - sIx items.size 0 lo) == items.size) = true):=by
    intro q
    rw [Bool.and_eq_true,Bool.and_eq_true] at q
    have q1 : ((sIx items.size 0 lo : Nat) : Int) = 0:=eq_of_beq q.1.1
    have q2 : sIx items.size items.size hi - sIx items.size 0 lo = items.size:=eq_of_beq q.2
    exact hw ⟨by omega,by omega⟩
  show wpAny _ _ (if (((sIx items.size 0 lo : Nat) : Int) == 0 && (1 : Int) == 1 && (sIx items.size items.size hi - sIx items.size 0 lo) == items.size) = true then _ else _) _ _ s
  rw [if_neg hno,pick_gen]
  first
    | exact wpAny_bind (m:=Builtin.Tuple.tupleExact _) (wpAny_newObj_type (wpAny_pure ⟨_,rfl,wpAny_pure h⟩) htake)
    | exact wpAny_bind (m:=Builtin.Tuple.tupleExact _) (wpAny_newObj_type (wpAny_bind (wpAny_pure (wpAny_pure ⟨_,rfl,wpAny_pure h⟩))) htake)
    | exact wpAny_bind (wpAny_bind (m:=Builtin.Tuple.tupleExact _) (wpAny_newObj_type (wpAny_pure (wpAny_pure ⟨_,rfl,wpAny_pure h⟩)) htake))
    | exact wpAny_bind (wpAny_bind (m:=Builtin.Tuple.tupleExact _) (wpAny_newObj_type (wpAny_pure ⟨_,rfl,wpAny_pure h⟩) htake))
end
end HT
namespace L2
open PySem PySem.Spec PyProof.Rows
noncomputable abbrev TO:=St→Hp→(Option Int→Hp→Prop)→Prop
noncomputable def PO (X : Cx) (e : Option Expr) (t : TO) : Prop :=
  ∀ (pins : List (Addr × Obj)) (s : Shared) (σ : St) (H : Hp) (Q : Option Int→Hp→Prop),Inv X pins σ H s→t σ H Q →
    wpAny (model X.prog X.w) X.A (evalPart e X.env) (fun u s'=>∃ o H',Inv X pins σ H' s'∧IsPart u o∧Q o H') X.xe s
noncomputable def tNoPart : TO:=fun _ H Q=>Q none H
noncomputable def tPart (t : TE) : TO:=fun σ H Q=>t σ H fun x H1=>∃ i,x = .int i∧Q (some i) H1
theorem intsAre_of {ns : List Int} : ∀ {us : List Value},Vals (ns.map V.int) us→IntsAre us ns:=by
  induction ns with
  | nil=>intro us r; rw [List.map_nil] at r; cases r; exact .nil
  | cons n ns ih =>
    intro us r
    rw [List.map_cons] at r
    cases r with
    | cons r1 r2 =>
      obtain ⟨t,e⟩:=r1
      subst e
      exact .cons n t (ih r2)
section
variable {X : Cx} {e : Expr} {te : TE} {lo hi : Option Expr} {tl th : TO} {pos p2 : Pos}
theorem po_none : PO X none tNoPart:=by
  intro pins s σ H Q I h
  rw [evalPart_none]
  exact wpAny_pure ⟨none,H,I,.none,h⟩
theorem po_some (h : PE X e te) : PO X (some e) (tPart te):=by
  intro pins s σ H Q I hw
  rw [evalPart_some]
  refine thn (h pins s σ H _ I hw) fun u s1 ⟨x,H1,I1,r1,q1⟩=>?_
  obtain ⟨i,rfl,q⟩:=q1
  obtain ⟨t,rfl⟩:=r1
  exact ⟨some i,H1,I1,.int i t,q⟩
noncomputable def SlR (X : Cx) (r : V→Option Int→Option Int→Hp→VK→Prop) : Prop :=
  ∀ (pins : List (Addr × Obj)) (s : Shared) (σ : St) (H : Hp) (x : V) (v vl vu : Value) (lo hi : Option Int) (sl : Addr) (Q : VK),Inv X pins σ H s→RelV x v→s.heap.IsSliceOf sl vl vu .none→IsPart vl lo→IsPart vu hi→r x lo hi H Q →
    ∃ T id,typeLookup (.type T) "__getitem__" = pure (some (.builtin id))∧s.TypeIs v T∧wpAny (model X.prog X.w) X.A (getItem v (.ref sl)) (EP X pins σ Q) X.xe s
theorem SlR.or {r r' : V→Option Int→Option Int→Hp→VK→Prop} (h : SlR X r) (h' : SlR X r') : SlR X (fun x lo hi H Q=>r x lo hi H Q∨r' x lo hi H Q):=by
  intro pins s σ H x v vl vu lo hi sl Q I rx hs pl pu q
  rcases q with q | q
  · exact h pins s σ H x v vl vu lo hi sl Q I rx hs pl pu q
  · exact h' pins s σ H x v vl vu lo hi sl Q I rx hs pl pu q
noncomputable def tSl (r : V→Option Int→Option Int→Hp→VK→Prop) (te : TE) (tl th : TO) : TE:=fun σ H Q=>te σ H fun x H1=>tl σ H1 fun l H2=>th σ H2 fun u H3=>r x l u H3 Q
theorem pe_slice {r : V→Option Int→Option Int→Hp→VK→Prop} (hr : SlR X r) (he : PE X e te) (hl : PO X lo tl) (hu : PO X hi th) : PE X (.Subscript e (.Slice lo hi none p2) pos) (tSl r te tl th):=by
  intro pins s σ H Q I h
  refine Subscript_ (thn (he pins s σ H _ I h) fun v s1 ⟨x,H1,I1,r1,q1⟩=>?_)
  refine wpAny_Slice (thn (hl pins s1 σ H1 _ I1 q1) fun vl s2 ⟨l,H2,I2,pl,q2⟩=>thn (hu pins s2 σ H2 _ I2 q2) fun vu s3 ⟨u,H3,I3,pu,q3⟩=>?_)
  rw [evalPart_none]
  refine wpAny_pure ?_
  have I4 : Inv X pins σ H3 { s3 with heap:=s3.heap.push { cls:=.type "slice",data:=.fields #[vl,vu,.none] } }:=I3.kept (t':=s3.toks) fun b ob q=>Heap.get?_push_of_some _ q
  obtain ⟨T,id,hT,ht,hg⟩:=hr pins { s3 with heap:=s3.heap.push { cls:=.type "slice",data:=.fields #[vl,vu,.none] } } σ H3 x v vl vu l u s3.heap.objs.size Q I4 r1 (Heap.IsSliceOf.new ..) pl pu q3
  show wpAny (model X.prog X.w) X.A (subscriptTail e (.Slice lo hi none p2) v (.ref s3.heap.objs.size)) (EP X pins σ Q) X.xe { s3 with heap:=s3.heap.push { cls:=.type "slice",data:=.fields #[vl,vu,.none] } }
  exact tail_any (ops:=[.ref s3.heap.objs.size,v]) ht hT hg (by with_unfolding_all rfl)
noncomputable def cutV (xs : List V) (lo hi : Option Int) : List V:=(xs.drop (HT.sIx xs.length 0 lo)).take (HT.sIx xs.length xs.length hi - HT.sIx xs.length 0 lo)
theorem cutV_length (xs : List V) (lo hi : Option Int) : (cutV xs lo hi).length ≤ xs.length:=by
  unfold cutV
  rw [List.length_take,List.length_drop]
  omega
noncomputable def rSlT (K : PySem.W.Frag) : V→Option Int→Option Int→Hp→VK→Prop:=fun x lo hi H Q=>∃ a xs,x = .ref a∧SqT K H a xs ∧
  ¬ (HT.sIx xs.length 0 lo = 0∧HT.sIx xs.length xs.length hi = xs.length)∧∀ p,H p = none→Q (.ref p) (upd H p (.tup (cutV xs lo hi)))
theorem sl_tup : SlR X (rSlT X.K):=by
  intro pins s σ H x v vl vu lo hi sl Q I rx hs pl pu h
  obtain ⟨a,xs,rfl,hx,hw,q⟩:=h
  cases rx
  obtain ⟨its,r,ht,hz⟩:=I.tuple hx
  have hlen : its.toArray.size = xs.length:=by rw [List.size_toArray]; exact r.length.symm
  refine ⟨"tuple",_,PyProof.Rows.slot_tuple_getitem.lookup,ht.typeIs,?_⟩
  refine HT.getItem_tuple_cut ht hs pl pu (by rw [hlen]; exact hw) ?_ (by rw [hlen]; exact hz)
  rw [hlen]
  refine ⟨.ref s.heap.objs.size,_,I.laid (t':=s.toks) (o:=.tup (cutV xs lo hi)) (fun b ob q=>Heap.get?_push_of_some _ q) (Nat.le_refl _) ?_,rfl,q _ (I.hok.fresh (Nat.le_refl _))⟩
  exact ⟨Nat.le_trans (cutV_length xs lo hi) hz,_,(r.drop (HT.sIx xs.length 0 lo)).take (HT.sIx xs.length xs.length hi - HT.sIx xs.length 0 lo),IsTup.new _ _⟩
noncomputable def rCatT (K : PySem.W.Frag) : R2:=fun x y H Q=>∃ a b xs ys,x = .ref a∧y = .ref b∧SqT K H a xs∧SqT K H b ys∧xs ≠ []∧xs.length + ys.length ≤ sizeLine ∧
  (ys = []→Q (.ref a) H)∧(ys ≠ []→∀ p,H p = none→Q (.ref p) (upd H p (.tup (xs++ys))))
theorem Vals.nil_iff {xs : List V} {us : List Value} (r : Vals xs us) : us = [] ↔ xs = []:=by
  cases r with
  | nil=>simp
  | cons _ _=>simp
theorem op_catT : OpR X (binaryOp .Add) (rCatT X.K):=by
  intro pins s σ H x y v u Q I rx ry h
  obtain ⟨a,b,xs,ys,rfl,rfl,ha,hb,hx,hz,q1,q2⟩:=h
  cases rx
  cases ry
  obtain ⟨its,r1,p1,_⟩:=I.tuple ha
  obtain ⟨its2,r2,p2,_⟩:=I.tuple hb
  refine HT.cat_tup p1 p2 (fun z=>hx (r1.nil_iff.mp z)) (fun z=>⟨.ref a,H,I,rfl,q1 (r2.nil_iff.mp z)⟩) (fun z=>?_) (by rw [← r1.length,← r2.length]; exact hz)
  refine ⟨.ref s.heap.objs.size,_,I.laid (t':=s.toks) (o:=.tup (xs++ys)) (fun b ob q=>Heap.get?_push_of_some _ q) (Nat.le_refl _) ?_,rfl,q2 (fun w=>z (r2.nil_iff.mpr w)) _ (I.hok.fresh (Nat.le_refl _))⟩
  exact ⟨by rw [List.length_append]; exact hz,_,r1.append r2,IsTup.new _ _⟩
end
end L2
namespace L2
open PySem PySem.Spec PyProof.Rows
noncomputable def ixN (n : Nat) (i : Int) : Option Nat:=if 0 ≤ i then (if i < n then some i.toNat else none) else if -(n : Int) ≤ i then some (i + n).toNat else none
noncomputable def atI {α : Type} (xs : List α) (i : Int) : Option α:=(ixN xs.length i).bind fun j=>xs[j]?
theorem ixN_seq {n : Nat} {i : Int} {j : Nat} (h : ixN n i = some j) : seqIndex? i n = some j∧j < n∧-(n : Int) ≤ i∧i < n:=by
  unfold ixN at h
  by_cases h0 : 0 ≤ i
  · rw [if_pos h0] at h
    by_cases h1 : i < n
    · rw [if_pos h1] at h
      have e : i.toNat = j:=Option.some.inj h
      exact ⟨by rw [seqIndex_of h0 h1,e],by omega,by omega,h1⟩
    · rw [if_neg h1] at h; cases h
  · rw [if_neg h0] at h
    by_cases h1 : -(n : Int) ≤ i
    · rw [if_pos h1] at h
      have e : (i + n).toNat = j:=Option.some.inj h
      exact ⟨by rw [seqIndex_neg (by omega) h1,e],by omega,h1,by omega⟩
    · rw [if_neg h1] at h; cases h
theorem atI_get {α : Type} {xs : List α} {i : Int} {v : α} (h : atI xs i = some v) : ∃ j,seqIndex? i xs.length = some j∧xs[j]? = some v∧j < xs.length∧-(xs.length : Int) ≤ i∧i < xs.length:=by
  unfold atI at h
  cases e : ixN xs.length i with
  | none=>rw [e] at h; cases h
  | some j =>
    rw [e] at h
    obtain ⟨h1,h2,h3,h4⟩:=ixN_seq e
    exact ⟨j,h1,h,h2,h3,h4⟩
noncomputable def PlainIx (b : Expr) : Prop:=∀ o i,subscripted b false o i = operate [o,i] (getItem o i)
noncomputable def IxR (X : Cx) (r : R2) : Prop :=
  ∀ (value slice : Expr) (pins : List (Addr × Obj)) (s : Shared) (σ : St) (H : Hp) (x y : V) (v u : Value) (Q : VK),Inv X pins σ H s→RelV x v→RelV y u→r x y H Q →
    subscripted slice false v u = operate [v,u] (getItem v u)→wpAny (model X.prog X.w) X.A (subscriptTail value slice v u) (EP X pins σ Q) X.xe s
noncomputable def MtR (X : Cx) (id : String) (r : V→List V→Hp→VK→Prop) : Prop :=
  ∀ (pins : List (Addr × Obj)) (s : Shared) (σ : St) (H : Hp) (x : V) (xs : List V) (v : Value) (us : List Value) (Q : VK),Inv X pins σ H s→RelV x v→Vals xs us→r x xs H Q →
    wpAny (model X.prog X.w) X.A (call (.builtin id) (v::us)) (EP X pins σ Q) X.xe s
section
variable {X : Cx} {a b : Expr} {ta tb : TE} {pos : Pos}
theorem IxR.or {r r' : R2} (h : IxR X r) (h' : IxR X r') : IxR X (fun x y H Q=>r x y H Q∨r' x y H Q):=by
  intro value slice pins s σ H x y v u Q I rx ry q hs
  rcases q with q | q
  · exact h value slice pins s σ H x y v u Q I rx ry q hs
  · exact h' value slice pins s σ H x y v u Q I rx ry q hs
theorem MtR.or {id : String} {r r' : V→List V→Hp→VK→Prop} (h : MtR X id r) (h' : MtR X id r') : MtR X id (fun x xs H Q=>r x xs H Q∨r' x xs H Q):=by
  intro pins s σ H x xs v us Q I rx rs q
  rcases q with q | q
  · exact h pins s σ H x xs v us Q I rx rs q
  · exact h' pins s σ H x xs v us Q I rx rs q
theorem pe_ix {r : R2} (hr : IxR X r) (ha : PE X a ta) (hb : PE X b tb) (hs : PlainIx b) : PE X (.Subscript a b pos) (tOp r ta tb):=by
  intro pins s σ H Q I h
  exact Subscript_ (binT ha hb I h fun v u s2 x y H2 I2 rx ry q=>hr a b pins s2 σ H2 x y v u Q I2 rx ry q (hs _ _))
noncomputable def rIxL (K : PySem.W.Frag) : R2:=fun x y H Q=>∃ p xs i v,x = .ref p∧y = .int i∧SqL K H p xs∧atI xs i = some v∧Q v H
noncomputable def rIxT (K : PySem.W.Frag) : R2:=fun x y H Q=>∃ p xs i v,x = .ref p∧y = .int i∧SqT K H p xs∧atI xs i = some v∧Q v H
noncomputable def rIxS : R2:=fun x y H Q=>∃ z i c,x = .str z∧y = .int i∧z.length ≤ sizeLine∧atI z.cps.toList i = some c∧Q (.str ⟨#[c]⟩) H
theorem ix_list : IxR X (rIxL X.K):=by
  intro value slice pins s σ H x y v u Q I rx ry h hs
  obtain ⟨p,xs,i,z,rfl,rfl,hq,he,q⟩:=h
  cases rx
  obtain ⟨t,rfl⟩:=ry
  obtain ⟨its,r,pl,hz⟩:=I.list hq
  obtain ⟨j,h1,h2,h3,h4,h5⟩:=atI_get he
  obtain ⟨w,ew,rw'⟩:=r.get h2
  have hl:=r.length
  have hn:=line63
  have fin : EP X pins σ Q w s:=⟨z,H,I,rw',q⟩
  by_cases h0 : 0 ≤ i
  · have hj : i.toNat = j:=by
      rw [seqIndex_of h0 h5] at h1
      exact Option.some.inj h1
    exact item_listR pl.isList h0 (by omega) (by rw [hj]; simpa using ew) fin hs
  · have hj : (i + (its.toArray.size : Int)).toNat = j:=by
      rw [seqIndex_neg (by omega) h4] at h1
      rw [List.size_toArray,← hl]
      exact Option.some.inj h1
    exact subscriptTail_builtinR (x:=w) pl.isList.typeIs slot_list_getitem.lookup
      (wpAny_getItem_list_neg (Q:=fun r s'=>r = w∧EP X pins σ Q r s') pl.isList (by omega) (by rw [List.size_toArray] <;> omega) (by omega) (by rw [hj]; simpa using ew) ⟨rfl,fin⟩) hs
theorem ix_tup : IxR X (rIxT X.K):=by
  intro value slice pins s σ H x y v u Q I rx ry h hs
  obtain ⟨p,xs,i,z,rfl,rfl,hq,he,q⟩:=h
  cases rx
  obtain ⟨t,rfl⟩:=ry
  obtain ⟨its,r,pl,hz⟩:=I.tuple hq
  obtain ⟨j,h1,h2,h3,h4,h5⟩:=atI_get he
  obtain ⟨w,ew,rw'⟩:=r.get h2
  have hl:=r.length
  have hn:=line63
  have fin : EP X pins σ Q w s:=⟨z,H,I,rw',q⟩
  exact subscriptTail_builtinR (x:=w) pl.typeIs slot_tuple_getitem.lookup
    (getItem_tuple (j:=j) (Q:=fun r s'=>r = w∧EP X pins σ Q r s') pl (by omega) (by omega) (by rw [List.size_toArray,← hl]; exact h1) (by simpa using ew) ⟨rfl,fin⟩) hs
theorem ix_str : IxR X rIxS:=by
  intro value slice pins s σ H x y v u Q I rx ry h hs
  obtain ⟨z,i,c,rfl,rfl,hz,he,q⟩:=h
  obtain ⟨t,rfl⟩:=rx
  obtain ⟨t',rfl⟩:=ry
  obtain ⟨j,h1,h2,h3,h4,h5⟩:=atI_get he
  have hl : z.cps.toList.length = z.length:=by simp [Str.length]
  rw [hl] at h1 h4 h5
  have hn:=line63
  exact tail_any (typeIs_str s z t) slot_str_getitem.lookup (getItem_str (c:=c) (by
    have e1 : decide (i < -(2 ^ 63 : Int)) = false:=decide_eq_false (by omega)
    have e2 : decide (i ≥ 2 ^ 63) = false:=decide_eq_false (by omega)
    rw [e1,e2,Bool.or_false]) (by rw [h1]; simpa using h2) ⟨.str ⟨#[c]⟩,H,I.tok _,⟨_,rfl⟩,q⟩) hs
theorem Inv.lst {pins : List (Addr × Obj)} {σ : St} {H : Hp} {s : Shared} {p : Addr} {xs : List V} (I : Inv X pins σ H s) (h : H p = some (.lst xs)) :
    ∃ (its : List Value) (n : Nat),Vals xs its∧s.heap.get? p = some { cls:=.type "list",data:=.seq its.toArray n }∧xs.length ≤ sizeLine:=by
  obtain ⟨z,its,n,r,e⟩:=I.hok p _ h
  exact ⟨its,n,r,e,z⟩
theorem slice_bounds (lo hi : Option Int) (n : Nat) : (sliceBounds lo hi none n).1 = ((HT.sIx n 0 lo : Nat) : Int)∧(sliceBounds lo hi none n).2.1 = ((HT.sIx n n hi : Nat) : Int)∧(sliceBounds lo hi none n).2.2 = 1:=by
  refine ⟨?_,?_,rfl⟩
  · cases lo with
    | none=>simp [sliceBounds,HT.sIx]
    | some i =>
      simp only [sliceBounds,HT.sIx,Option.getD_none,show (1 : Int) > 0 by decide,if_true]
      by_cases h : i < 0
      · simp only [h,if_true] <;> omega
      · simp only [h,if_false] <;> omega
  · cases hi with
    | none=>simp [sliceBounds,HT.sIx]
    | some i =>
      simp only [sliceBounds,HT.sIx,Option.getD_none,show (1 : Int) > 0 by decide,if_true]
      by_cases h : i < 0
      · simp only [h,if_true] <;> omega
      · simp only [h,if_false] <;> omega
theorem slicePick_cut (its : List Value) (lo hi : Option Int) : slicePick its.toArray lo hi none = ((its.drop (HT.sIx its.length 0 lo)).take (HT.sIx its.length its.length hi - HT.sIx its.length 0 lo)).toArray:=by
  obtain ⟨h1,h2,h3⟩:=slice_bounds lo hi its.toArray.size
  unfold slicePick
  rw [h1,h2,h3]
  simp only [sliceRange_one,pick_run,List.size_toArray] <;> rfl
noncomputable def rSlL (K : PySem.W.Frag) : V→Option Int→Option Int→Hp→VK→Prop:=fun x lo hi H Q=>∃ a xs,x = .ref a∧SqL K H a xs∧∀ p,H p = none→Q (.ref p) (upd H p (.lst (cutV xs lo hi)))
theorem sl_list : SlR X (rSlL X.K):=by
  intro pins s σ H x v vl vu lo hi sl Q I rx hs pl pu h
  obtain ⟨a,xs,rfl,hx,q⟩:=h
  cases rx
  obtain ⟨its,r,ht,hz⟩:=I.list hx
  have hlen:=r.length
  refine ⟨"list",_,slot_list_getitem.lookup,ht.isList.typeIs,?_⟩
  refine wpAny_getItem_list_slice ht.isList hs pl pu .none (by simp) ?_ (by rw [List.size_toArray] <;> omega)
  rw [slicePick_cut,← hlen]
  refine ⟨.ref s.heap.objs.size,_,I.laid (t':=s.toks) (o:=.lst (cutV xs lo hi)) (fun b ob q=>Heap.get?_push_of_some _ q) (Nat.le_refl _) ?_,rfl,q _ (I.hok.fresh (Nat.le_refl _))⟩
  exact ⟨Nat.le_trans (cutV_length xs lo hi) hz,_,0,(r.drop (HT.sIx xs.length 0 lo)).take (HT.sIx xs.length xs.length hi - HT.sIx xs.length 0 lo),Heap.get?_push_size _ rfl⟩
theorem call_len_seq : CallR X (.builtin "len") (fun xs H Q=>∃ p ys,xs = [.ref p]∧(SqL X.K H p ys∨SqT X.K H p ys)∧Q (.int ys.length) H):=by
  intro pins s σ H xs us Q I r h
  obtain ⟨p,ys,rfl,hq,q⟩:=h
  obtain ⟨u,rfl,rx⟩:=vals1 r
  cases rx
  have hn:=line63
  rcases hq with hq | hq
  · obtain ⟨its,r',pl,hz⟩:=I.list hq
    have hlen:=r'.length
    exact Calls.call_len_list pl.isList (by simp only [List.size_toArray] <;> omega) ⟨.int ys.length,H,I.tok _,⟨s.toks + 1,by rw [List.size_toArray,hlen]⟩,q⟩
  · obtain ⟨its,r',pl,hz⟩:=I.tuple hq
    have hlen:=r'.length
    exact len_tuple pl (by simp only [List.size_toArray] <;> omega) ⟨.int ys.length,H,I.tok _,⟨s.toks + 1,by rw [List.size_toArray,hlen]⟩,q⟩
theorem call_len_str : CallR X (.builtin "len") (fun xs H Q=>∃ z,xs = [.str z]∧z.length ≤ sizeLine∧Q (.int z.length) H):=by
  intro pins s σ H xs us Q I r h
  obtain ⟨z,rfl,hz,q⟩:=h
  obtain ⟨u,rfl,t,rfl⟩:=vals1 r
  have hn:=line63
  exact len_str (by omega) ⟨.int z.length,H,I.tok _,⟨_,rfl⟩,q⟩
theorem CallR.or {f : Value} {r r' : List V→Hp→VK→Prop} (h : CallR X f r) (h' : CallR X f r') : CallR X f (fun xs H Q=>r xs H Q∨r' xs H Q):=by
  intro pins s σ H xs us Q I rs q
  rcases q with q | q
  · exact h pins s σ H xs us Q I rs q
  · exact h' pins s σ H xs us Q I rs q
theorem call_list_of : CallR X (.type "list") (fun xs H Q=>∃ p ys,xs = [.ref p]∧(SqL X.K H p ys∨SqT X.K H p ys)∧∀ l,H l = none→Q (.ref l) (upd H l (.lst ys))):=by
  intro pins s σ H xs us Q I r h
  obtain ⟨p,ys,rfl,hq,q⟩:=h
  obtain ⟨u,rfl,rx⟩:=vals1 r
  cases rx
  have fin : ∀ (its : List Value),Vals ys its→ys.length ≤ sizeLine→∀ (h' : Heap) (c' : Nat),(∀ b o',s.heap.get? b = some o'→h'.get? b = some o') →
      h'.get? s.heap.objs.size = some { cls:=.type "list",dict:=none,data:=.seq its.toArray c',slots:=#[] }→EP X pins σ Q (.ref s.heap.objs.size) { s with heap:=h' }:=fun its r' hz h' c' kp e =>
    ⟨.ref s.heap.objs.size,_,I.laid (t':=s.toks) kp (Nat.le_refl _) (show ObjOk X.prog X.w _ h' _ (.lst ys) from ⟨hz,its,c',r',e⟩),rfl,q _ (I.hok.fresh (Nat.le_refl _))⟩
  rcases hq with hq | hq
  · obtain ⟨its,r',pl,hz⟩:=I.list hq
    have hlen:=r'.length
    obtain ⟨o,ho,hc,n,hd⟩:=pl.isList
    exact call_list_seq p (.inl rfl) ho hc hd (fun h' c' kp e=>fin its r' hz h' c' kp e) (by simp only [List.size_toArray] <;> omega)
  · obtain ⟨its,r',pl,hz⟩:=I.tuple hq
    have hlen:=r'.length
    obtain ⟨o,ho,hc,n,hd⟩:=pl
    exact call_list_seq p (.inr rfl) ho hc hd (fun h' c' kp e=>fin its r' hz h' c' kp e) (by simp only [List.size_toArray] <;> omega)
theorem call_tuple_of : CallR X (.type "tuple") (fun xs H Q=>∃ p ys,xs = [.ref p]∧((SqL X.K H p ys∧∀ l,H l = none→Q (.ref l) (upd H l (.tup ys)))∨(SqT X.K H p ys∧Q (.ref p) H))):=by
  intro pins s σ H xs us Q I r h
  obtain ⟨p,ys,rfl,h⟩:=h
  obtain ⟨u,rfl,rx⟩:=vals1 r
  cases rx
  rcases h with ⟨hq,q⟩ | ⟨hq,q⟩
  · obtain ⟨its,r',pl,hz⟩:=I.list hq
    have hlen:=r'.length
    refine call_tuple_list pl.isList (fun h' kp=>?_) (by simp only [List.size_toArray] <;> omega)
    have I1 : Inv X pins σ H { s with heap:=h' }:=I.kept (t':=s.toks) kp
    have I2 : Inv X pins σ (upd H h'.objs.size (.tup ys)) { s with heap:=h'.push { cls:=.type "tuple",data:=.seq its.toArray } } :=
      I1.laid (t':=s.toks) (fun b o e=>Heap.get?_push_of_some _ e) (Nat.le_refl _) (show ObjOk X.prog X.w _ _ _ (.tup ys) from ⟨hz,its,r',IsTup.new _ _⟩)
    exact ⟨.ref h'.objs.size,_,I2,rfl,q _ (I1.hok.fresh (Nat.le_refl _))⟩
  · obtain ⟨its,r',pl,hz⟩:=I.tuple hq
    exact call_tuple_same pl ⟨.ref p,H,I,rfl,q⟩
noncomputable def tyV (K : PySem.W.Frag) (T : String) (x : V) (H : Hp) : Prop:=match x with
  | .str _=>T = "str"
  | .int _=>T = "int"
  | .ref p=>(T = "list"∧∃ xs,SqL K H p xs)∨(T = "tuple"∧∃ o,K.lookup p = some o∧o.cls = .type "tuple"∧o.dict = none) ∨
      (T = "dict"∧((∃ kvs,H p = some (.dK kvs))∨∃ kvs,H p = some (.dT kvs)))∨(T = "set"∧∃ S n,H p = some (.set S n))
  | _=>False
theorem tyV_is {pins : List (Addr × Obj)} {σ : St} {H : Hp} {s : Shared} {T : String} {x : V} {v : Value} (I : Inv X pins σ H s) (r : RelV x v) (ty : tyV X.K T x H) :
    s.TypeIs v T∧∀ a,v = .ref a→∃ ob,s.heap.get? a = some ob∧ob.dict = none:=by
  cases x with
  | str z =>
    obtain ⟨t,rfl⟩:=r
    cases (show T = "str" from ty)
    exact ⟨typeIs_str s z t,fun _ e=>nomatch e⟩
  | int i =>
    obtain ⟨t,rfl⟩:=r
    cases (show T = "int" from ty)
    exact ⟨typeIs_int s i t,fun _ e=>nomatch e⟩
  | ref p =>
    cases r
    rcases ty with ⟨rfl,xs,hq⟩ | ⟨rfl,o,hk,hc,hd⟩ | ⟨rfl,hk⟩ | ⟨rfl,S,n,hk⟩
    · obtain ⟨its,_,pl,_⟩:=I.list hq
      refine ⟨pl.isList.typeIs,fun a e=>?_⟩
      cases e
      obtain ⟨o,n,e,c,hd,_⟩:=pl
      exact ⟨o,e,hd⟩
    · refine ⟨⟨o,I.kIn p o hk,hc⟩,fun a e=>?_⟩
      cases e
      exact ⟨o,I.kIn _ o hk,hd⟩
    · have z : ∃ o,s.heap.get? p = some o∧o.ExactDict:=by
        rcases hk with ⟨kvs,hk⟩ | ⟨kvs,hk⟩
        · obtain ⟨_,_,_,_,o,_,_,e,ex,_⟩:=I.hok p _ hk
          exact ⟨o,e,ex⟩
        · obtain ⟨_,_,_,_,o,_,_,e,ex,_⟩:=I.hok p _ hk
          exact ⟨o,e,ex⟩
      obtain ⟨o,e,ex⟩:=z
      refine ⟨⟨o,e,ex.1⟩,fun a e2=>?_⟩
      cases e2
      exact ⟨o,e,ex.2.1⟩
    · obtain ⟨o,_,_,_,e,ex,_⟩:=I.hok p _ hk
      refine ⟨⟨o,e,ex.1⟩,fun a e2=>?_⟩
      cases e2
      exact ⟨o,e,ex.2.1⟩
  | _=>exact False.elim ty
noncomputable def tBM (K : PySem.W.Frag) (T : String) (r : V→List V→Hp→VK→Prop) (to : TE) (t : TA) : TE:=fun σ H Q=>to σ H fun x H1=>tyV K T x H1∧t σ H1 fun xs H2=>r x xs H2 Q
variable {o e : Expr} {es : List Expr} {to : TE} {t : TA} {name : Str} {apos cpos : Pos} {T id : String} {r : V→List V→Hp→VK→Prop}
theorem pe_bm (pa : PlainAttrs T) (slot : Slot T name id) (hty : typeOf (.builtin id) = pure (.type "method_descriptor")) (hm : MtR X id r) (ho : PE X o to) (ha : PA X (e::es) t)
    (hbase : attributeBase o name X.env (eval o X.env) = eval o X.env:=by rfl)
    (hfew : ((backTo cpos (starEach (e::es) X.env)).all (fun x=>!x.1) && (backToKw cpos (keywordEach [] X.env)).all (fun x=>x.1.isSome)
      && decide ((e::es).length + ([] : List Keyword).length + (if ([] : List Keyword).isEmpty then 0 else 1) < 30)) = true:=by rfl)
    (hline : (apos.endLine == cpos.line) = true:=by rfl) (hs : starEach (e::es) X.env = (false,eval e X.env)::starEach es X.env:=by rfl) (hplain : (backTo cpos (starEach es X.env)).any (·.1) = false:=by rfl) :
    PE X (.Call (.Attribute o name apos) (e::es) [] cpos) (tBM X.K T r to t):=by
  intro pins s σ H Q I h
  refine wpAny_Call_method_late hbase hfew hline rfl (thn (ho pins s σ H _ I h) fun v s1 ⟨x,H1,I1,r1,ty,q1⟩=>?_)
  obtain ⟨h1,h2⟩:=tyV_is I1 r1 ty
  refine ⟨T,id,pa,slot,hty,h1,h2,?_⟩
  have hA:=ha cpos pins s1 σ H1 _ I1 q1
  rw [hs] at hA ⊢
  refine Calls.callWith_builtin (by show (false || (backTo cpos (starEach es X.env)).any (·.1)) = false; rw [hplain] <;> rfl) (Calls.evalArgs_plain ?_)
  exact thn hA fun us s2 ⟨vs,H2,I2,r2,q2⟩=>hm pins s2 σ H2 x vs v us Q I2 r1 r2 q2
end
end L2
namespace L2
open PySem PySem.Spec PyProof.Rows
noncomputable def MtM (X : Cx) (id : String) (r : V→List V→Hp→VK→Prop) : Prop :=
  ∀ (pins : List (Addr × Obj)) (s : Shared) (σ : St) (H : Hp) (x : V) (xs : List V) (v : Value) (us : List Value) (Q : VK),Inv X pins σ H s→RelV x v→Vals xs us→r x xs H Q →
    wpAny (model X.prog X.w) X.A (call (.builtin id) (v::us)) (EP X pins σ Q) X.xe s
theorem Vals.one : ∀ {x : V} {us : List Value},Vals [x] us→∃ u,us = [u]∧RelV x u
  | _,_,.cons r .nil=>⟨_,rfl,r⟩
theorem Vals.two : ∀ {x y : V} {us : List Value},Vals [x,y] us→∃ u v,us = [u,v]∧RelV x u∧RelV y v
  | _,_,_,.cons r (.cons q .nil)=>⟨_,_,rfl,r,q⟩
theorem Vals.zero : ∀ {us : List Value},Vals [] us→us = []
  | _,.nil=>rfl
theorem Vals.rep {xs : List V} {us : List Value} (h : Vals xs us) : ∀ k : Nat,Vals (List.replicate k xs).flatten (List.replicate k us).flatten
  | 0=>.nil
  | k + 1=>by
    rw [List.replicate_succ,List.replicate_succ,List.flatten_cons,List.flatten_cons]
    exact Vals.append h (Vals.rep h k)
theorem foldl_rep (its : List Value) : ∀ (k : Nat) (acc : List Value),
    List.foldl (fun x1 x2=>x1++x2) acc.toArray (List.replicate k its.toArray) = (acc++(List.replicate k its).flatten).toArray
  | 0,acc=>by simp
  | k + 1,acc=>by
    have e : acc.toArray++its.toArray = (acc++its).toArray:=by simp
    have e2 : (acc++its)++(List.replicate k its).flatten = acc++(List.replicate (k + 1) its).flatten:=by
      rw [List.replicate_succ,List.flatten_cons,List.append_assoc]
    rw [← e2,← foldl_rep its k (acc++its),← e,List.replicate_succ,List.foldl_cons]
section
variable {X : Cx} {pins : List (Addr × Obj)} {σ : St} {H : Hp} {s : Shared} {l b : Addr} {xs ys zs : List V}
theorem Inv.lset {its its' : List Value} {n : Nat} {f : Array Value→Array Value} {t' : Nat} (I : Inv X pins σ H s) (hH : H l = some (.lst xs))
    (e : s.heap.get? l = some { cls:=.type "list",data:=.seq its.toArray n }) (hf : f its.toArray = its'.toArray) (hv : Vals ys its') (hz : ys.length ≤ sizeLine) :
    Inv X pins σ (upd H l (.lst ys)) { s with heap:=s.heap.update l (Obj.mapSeq f),toks:=t' }:=by
  have q:=PySem.IsL.update e f
  rw [hf] at q
  refine I.write (x:=l) (e:=l) (by rw [hH]; exact trivial) (.inl rfl) (fun b' u hb hu=>(Heap.get?_update_other s.heap (Obj.mapSeq f) (Ne.symm hb)).trans hu) ⟨_,q⟩ ?_
  exact ⟨hz,its',_,hv,q⟩
theorem Inv.lnew {its : List Value} {t' : Nat} (I : Inv X pins σ H s) (hv : Vals ys its) (hz : ys.length ≤ sizeLine) :
    Inv X pins σ (upd H s.heap.objs.size (.lst ys)) { s with heap:=s.heap.push { cls:=.type "list",data:=.seq its.toArray },toks:=t' } :=
  I.laid (fun _ _ q=>Heap.get?_push_of_some _ q) (Nat.le_refl _) ⟨hz,its,0,hv,Heap.get?_push_size _ rfl⟩
theorem Inv.fresh (I : Inv X pins σ H s) : H s.heap.objs.size = none:=I.hok.fresh (Nat.le_refl _)
theorem Inv.lstM (I : Inv X pins σ H s) (hH : H l = some (.lst xs)) : xs.length ≤ sizeLine∧∃ (its : List Value) (n : Nat),Vals xs its∧xs.length = its.length∧s.heap.get? l = some { cls:=.type "list",data:=.seq its.toArray n }:=by
  obtain ⟨z,its,n,r,e⟩:=I.hok l _ hH
  exact ⟨z,its,n,r,r.length,e⟩
theorem notLongL {n : Nat} (h : n ≤ sizeLine) : Builtin.List.listTooLong n = false:=by
  unfold Builtin.List.listTooLong
  exact decide_eq_false (by omega)
end
section
variable {X : Cx}
noncomputable def rAppend : V→List V→Hp→VK→Prop:=fun x vs H Q=>∃ l xs y,x = .ref l∧vs = [y]∧H l = some (.lst xs)∧xs.length < sizeLine∧Q .non (upd H l (.lst (xs++[y])))
theorem mt_append : MtM X "list.append" rAppend:=by
  intro pins s σ H x vs v us Q I rx rv h
  obtain ⟨l,xs,y,rfl,rfl,hH,hz,q⟩:=h
  cases rx
  obtain ⟨u,rfl,ru⟩:=rv.one
  obtain ⟨z,its,n,r,hl,e⟩:=I.lstM hH
  refine call_meets F.slot_list_append ⟨_,e,rfl⟩ F.entry_list_append (F.args_list_append_2 _ _) (PySem.list_append l its.toArray n u (by rw [List.size_toArray]; omega)) ⟨e,?_⟩
  refine ⟨.non,_,I.lset (its':=its++[u]) hH e (by simp) (r.append (.cons ru .nil)) ?_,rfl,q⟩
  rw [List.length_append,List.length_singleton]
  omega
noncomputable def rRep : R2:=fun x y H Q=>∃ l k xs,x = .ref l∧y = .int k∧H l = some (.lst xs)∧-(2 ^ 63) ≤ k∧k < 2 ^ 63∧xs.length * k.toNat ≤ sizeLine ∧
  ∀ p,H p = none→Q (.ref p) (upd H p (.lst (List.replicate k.toNat xs).flatten))
theorem len_rep {α : Type} (xs : List α) (k : Nat) : (List.replicate k xs).flatten.length = k * xs.length:=by
  induction k with
  | zero=>simp
  | succ k ih=>rw [List.replicate_succ,List.flatten_cons,List.length_append,ih,Nat.succ_mul,Nat.add_comm]
theorem op_rep : OpR X (binaryOp .Mult) rRep:=by
  intro pins s σ H x y v u Q I rx ry h
  obtain ⟨l,k,xs,rfl,rfl,hH,h1,h2,hz,q⟩:=h
  cases rx
  obtain ⟨t,rfl⟩:=ry
  obtain ⟨z,its,n,r,hl,e⟩:=I.lstM hH
  have hlen : its.toArray.size * k.toNat ≤ sizeLine:=by rw [List.size_toArray,← hl]; exact hz
  have hcap : ¬ its.toArray.size * k.toNat > (2 ^ 63 - 1) / 8:=by
    have : (sizeLine : Nat) ≤ (2 ^ 63 - 1) / 8:=by decide
    omega
  have hfit : ¬ (!Builtin.List.listFitsIndex k) = true:=by
    rw [fitsIndex_both h1 h2]
    exact Bool.false_ne_true
  have hlong : ¬ Builtin.List.listTooLong (its.toArray.size * k.toNat) = true:=by
    rw [notLongL hlen]
    exact Bool.false_ne_true
  have hnew : List.foldl (fun x1 x2=>x1++x2) #[] (List.replicate (if its.toArray.isEmpty = true then 0 else k.toNat) its.toArray) = (List.replicate k.toNat its).flatten.toArray:=by
    have f0 : ∀ m : Nat,List.foldl (fun x1 x2=>x1++x2) #[] (List.replicate m its.toArray) = (List.replicate m its).flatten.toArray:=fun m=>by
      have:=foldl_rep its m []
      rw [List.nil_append] at this
      exact this
    rw [f0]
    cases its with
    | nil=>simp
    | cons a r'=>rw [if_neg (by simp)]
  refine wpAny_binaryOp_repeat_ref (T:="list") (U:="int") (by decide) ⟨_,e,rfl⟩ (fun s'=>typeIs_int s' k t) noFill_list_mul F.fills_int_mul F.slot_int_rmul repeat_list F.slot_int_index.lookup
    (call_meets F.slot_int_rmul (typeIs_int s k t) F.entry_int_rmul (F.args_int_rmul_2 _ _) (int___rmul___int_list k t l its.toArray n)
      ⟨e,rfl,⟨_,e,rfl⟩,call_meets F.slot_list_mul ⟨_,e,rfl⟩ F.entry_list_mul (F.args_list_mul_2 _ _) (AutoListH.list___mul___list_int_3 l its.toArray n k t hfit hcap hlong) ⟨e,?_⟩⟩)
  rw [hnew]
  exact ⟨.ref _,_,I.lnew (t':=s.toks) (r.rep k.toNat) (by rw [len_rep,Nat.mul_comm]; exact hz),rfl,q _ I.fresh⟩
end
section
variable {prog : Program} {w : World} {A : Around} {E : Value→Shared→Prop} {s : Shared}
end
section
variable {X : Cx}
end
end L2
namespace Att
open PySem PySem.W PySem.Calls PyProof.Rows
theorem ints_of_wellAll {P : Params} {h : Heap} : ∀ (ns : List Int) (vs : List Value),WellAll P h vs (ns.map WData.int)→IntsAre vs ns:=by
  intro ns
  induction ns with
  | nil =>
    intro vs w
    rw [List.map_nil] at w
    cases w
    exact .nil
  | cons n ns ih =>
    intro vs w
    rw [List.map_cons] at w
    cases w with
    | cons a b =>
      cases a
      exact .cons _ _ (ih _ b)
theorem script_of {l : OpenLaw} {n : Nat} (hn : l.most = some n) {P : Params} {h : Heap} {args : List WData} {vals : List Value}
    (hpre : l.row.toRowW.claim.pre args = true) (hwl : WellAll P h vals args) :
    ∃ a vs ns,vals = [Value.ref a]∧args = [WData.list (ns.map WData.int)]∧h.get? a = some { cls:=.type "list",data:=.seq vs.toArray }∧IntsAre vs ns∧ns.length ≤ n:=by
  have hsh : WShape.hasAll [] args [.list .int] = true:=(pre_splitW hpre).1
  have hc : l.pre.holds [] { args:=args } = true:=(pre_splitW hpre).2
  obtain ⟨d,r,rfl,h1,h2⟩:=hasAllW_cons hsh
  obtain rfl:=hasAllW_nil h2
  obtain ⟨xs,rfl,h3⟩:=hasW_list h1
  obtain ⟨ns,rfl⟩:=items_int h3
  have hlen : ns.length ≤ n:=by
    unfold OpenLaw.pre at hc
    have h4 : (WTm.not (.lt (.lit (.int (n : Int))) (.len (.arg 0)))).holds [] { args:=[.list (ns.map .int)] } = true:=by
      have h4:=(holds_andW hc).1
      rw [hn] at h4
      exact h4
    have h5:=condW_of h4 (w_not (w_lt w_lit (w_len_list (w_arg rfl))))
    rw [List.length_map] at h5
    refine Nat.le_of_not_lt fun q=>?_
    have q' : (n : Int) < ((ns.length : Nat) : Int):=by omega
    first
      | (rw [decide_eq_true q'] at h5; exact absurd h5 (by decide))
      | (simp at h5; omega)
  cases hwl with
  | cons w1 w2 =>
    cases w2
    cases w1 with
    | list ho hall=>exact ⟨_,_,ns,rfl,rfl,ho,ints_of_wellAll ns _ hall,hlen⟩
theorem post_true (l : OpenLaw) (args : List WData) : l.row.toRowW.claim.post args (.bool true) args = true :=
  postW_of (r:=l.row.toRowW) (X:=(true == true))
    (show WShape.has [] (.bool true) .bool = true by first | rfl | decide | simp [WShape.has,WShape.arms,WShape.armsAll])
    (show (WTm.eq .res (.lit (.bool true))).value [] { args:=args,res:=some (.bool true),after:=args } = some (.bool (true == true)) from w_eq_bool (w_res rfl) w_lit) rfl
theorem attach_call {l : OpenLaw} {n : Nat} {q : Program} {loose : List Str} {XP : (Str→Option Value)→Heap→Prop} {YP : World→Heap→Prop} {d : DefRec}
    (hn : l.most = some n) (hdf : d.params.defaults = [])
    (call : ∀ (w : World) (s₀ s₁ : Shared) (mg mb : Str→Option Value) (fa : Addr) (o : Obj) (pm cd doc : Value) (a : Addr) (vs : List Value) (ns : List Int),
      Ground q loose [] XP w s₀ mg mb s₁.heap→YP w s₁.heap →
      s₁.heap.get? fa = some o→o.data = .func (docDef d.name d.params d.body d.scope pm cd doc)→s₁.heap.CodeRec cd d.name→mg d.name = some (.ref fa) →
      s₁.heap.get? a = some { cls:=.type "list",data:=.seq vs.toArray }→IntsAre vs ns→ns.length ≤ n→s₁.gens = #[] →
      codeAny (model l.prog w) callerA (.call (.ref fa) ⟨[.ref a],[]⟩) (fun r s'=>r = .ok (.ret (.bool true))∧OldK s₁.heap s'.heap∧s'.os = s₁.os∧AllBare s'.gens) s₁) :
    WalkO q loose XP YP l.row.toRowW d [] (fun f vs=>PySem.call f vs):=by
  intro w s₀ s₁ mg mb G Y fa o pm cd doc dV kV ho hd hcd hD hmg hg args vals as hpre hlay hrd hwl hlo
  obtain rfl : dV = .none:=Dflts.none hD hdf
  obtain rfl : kV = .none:=Dflts.noKw hD
  obtain ⟨a,vs,ns,rfl,rfl,hobj,hints,hlen⟩:=script_of hn hpre hwl
  refine enter_call (codeAny_mono (call w s₀ s₁ mg mb fa o pm cd doc a vs ns G Y ho (fd_plain hd) hcd hmg hobj hints hlen hg) fun r s' hq=>?_)
  obtain ⟨rfl,h2,h3,h4⟩:=hq
  exact ⟨.inl ⟨.bool true,.bool true,[],rfl,fun _=>rfl,.bool true,post_true l _,fun _=>⟨List.Pairwise.nil,fun _ hm=>(nomatch hm)⟩⟩,h2,h3,h4⟩
section
variable {prog : Program} {w : World} {A : Around} {E : Value→Shared→Prop} {s : Shared} {K : Frag}
end
end Att
namespace L2
open PySem PySem.Spec PyProof.Rows
theorem vals_ints : ∀ {vs : List Value} {ns : List Int},IntsAre vs ns→Vals (ns.map V.int) vs
  | _,_,.nil=>.nil
  | _,_,.cons n t h=>.cons ⟨t,rfl⟩ (vals_ints h)
noncomputable def Only (H : Hp) : Prop:=∀ b,H b = none∨∃ o xs,H b = some (.frz o (.lst xs))
theorem law_call {P : Program} {w : World} {K : PySem.W.Frag} {mg mb : Str→Option Value} {CX : CXT} {k : Nat} {fa a : Addr} {fd : FuncData} {x : Str} {sp : Sp} {s₁ : Shared} {vs : List Value} {ns : List Int}
    (KX : K.In s₁.heap) (hns : s₁.heap.Ns mainGlobals mg) (hb : s₁.heap.Ns builtinsNs mb) (hbb : ∀ x : Str,x ≠ "__name__"→mb x = bootBuiltins x) (hlim : s₁.heap.NoLimit) (hg : s₁.gens = #[])
    (ha : s₁.heap.get? a = some { cls:=.type "list",data:=.seq vs.toArray }) (hi : IntsAre vs ns) (hl : ns.length ≤ sizeLine) (hr : Room k callerA)
    (F : ∀ base : Heap,K.In base→base.Ns mainGlobals mg→FnOk P w K mg base CX k fa fd [x] sp) (hbind : ∀ (s : Shared) (u : Value),BindsTo s fd ⟨[u],[]⟩ [(x,u)])
    (hsp : ∀ H : Hp,Only H→SqL K H a (ns.map V.int)→sp [.ref a] H (fun v _=>v = .bl true) fun _ _ _=>False)
    (hCX : ∀ H e s',CX [] H s₁ (fun _ _ _=>False) e s'→False) :
    codeAny (model P w) callerA (.call (.ref fa) ⟨[.ref a],[]⟩) (fun r s'=>r = .ok (.ret (.bool true))∧OldK s₁.heap s'.heap∧s'.os = s₁.os∧AllBare s'.gens) s₁:=by
  have rv:=vals_ints hi
  have lenV:=hi.length
  -- from an abstract heap in which nothing but the script may be tracked
  have core : ∀ H : Hp,Only H→SqL K H a (ns.map V.int)→HOk P w H s₁.heap→(∀ b,H b ≠ none→b = a)→(H a ≠ none→K.lookup a = none) →
      codeAny (model P w) callerA (.call (.ref fa) ⟨[.ref a],[]⟩) (fun r s'=>r = .ok (.ret (.bool true))∧OldK s₁.heap s'.heap∧s'.os = s₁.os∧AllBare s'.gens) s₁:=by
    intro H hO hS hok hA hK
    have base_of : ∀ {b : Addr} {o : Obj},s₁.heap.get? b = some o→H b = none→(hidT s₁.heap H).get? b = some o:=fun e n=>hidT_get e n
    have noA : ∀ {b : Addr} {o : Obj} {es : Array DictEntry} {ep : Nat},s₁.heap.get? b = some o→o.data = .dict es ep→H b = none:=fun {b o es ep} e d=>by
      cases q : H b with
      | none=>rfl
      | some u =>
        have e' : b = a:=hA b (by rw [q]; simp)
        subst e'
        rw [ha] at e; cases e
        have d' : Data.seq vs.toArray _ = Data.dict es ep:=d
        cases d'
    have nsK : ∀ {b : Addr} {m : Str→Option Value},s₁.heap.Ns b m→(hidT s₁.heap H).Ns b m:=fun {b m} ⟨o,es,ep,e,d,r⟩=>⟨o,es,ep,base_of e (noA e d),d,r⟩
    have hKb : K.In (hidT s₁.heap H):=fun b o e=>base_of (KX b o e) (by
      cases q : H b with
      | none=>rfl
      | some u =>
        have e' : b = a:=hA b (by rw [q]; simp)
        subst e'
        rw [hK (by rw [q]; simp)] at e; cases e)
    have hM : Mod K mg (hidT s₁.heap H):=⟨hKb,nsK hns,⟨mb,nsK hb,hbb⟩,let ⟨mc,h1,h2⟩:=hlim; ⟨mc,nsK h1,h2⟩⟩
    have e0 : Env0 P w K mg (hidT s₁.heap H) callerA [] s₁ H:=⟨rfl,hM,fun b o e=>of_hidT e,Nat.le_of_eq (hidT_size _ _),trivial,fun b hb=>absurd (show b ∈ ([] : List Addr) from hb) (by simp),hok,.of_eq hg⟩
    refine codeAny_mono ((F _ hKb (nsK hns)).run callerA [] s₁ H ⟨[.ref a],[]⟩ [.ref a] [.ref a] _ _ hr e0 (hbind s₁ (.ref a)) (.cons rfl .nil) (hsp H hO hS)) fun r s' h=>?_
    cases r with
    | error e=>exact (hCX H e s' h).elim
    | ok fl =>
      cases fl with
      | next=>exact False.elim h
      | brk=>exact False.elim h
      | cont=>exact False.elim h
      | ret u =>
        obtain ⟨v,H',os,bare,un,hok',r',q⟩:=h
        have q' : v = .bl true:=q
        subst q'
        obtain rfl : u = Value.bool true:=r'
        refine ⟨rfl,OldK.of_keep fun b o e=>?_,os,bare⟩
        cases q : H b with
        | none=>exact un.keep b o e q (by intro z; exact absurd (show b ∈ ([] : List Addr) from z) (by simp)) (by simp)
        | some u =>
          rcases hO b with z | ⟨ob,xs,z⟩
          · rw [q] at z; cases z
          · have z2:=un.frzs b ob _ z
            obtain ⟨e1,_⟩:=hok b _ z
            obtain ⟨e2,_⟩:=hok' b _ z2
            rw [e] at e1; cases e1
            exact e2
  cases hk : K.lookup a with
  | some o =>
    -- the script is one of the module's own objects
    have e:=KX a o hk
    rw [ha] at e
    cases e
    refine core (fun _=>none) (fun _=>.inl rfl) (.inr ⟨_,vs.toArray,_,hk,rfl,rfl,rfl,by rw [List.size_toArray,lenV]; exact hl,by simpa using rv⟩) (fun b u z=>by have z' : (none : Option HO) = some u:=z; cases z') (fun b z=>absurd rfl z) fun z=>absurd rfl z
  | none =>
    refine core (fun b=>if b = a then some (.frz { cls:=.type "list",data:=.seq vs.toArray } (.lst (ns.map V.int))) else none) (fun b=>?_) (.inl (.inr ⟨{ cls:=.type "list",data:=.seq vs.toArray },if_pos rfl⟩)) (fun b u z=>?_) (fun b z=>?_) fun _=>hk
    · by_cases hb : b = a
      · exact .inr ⟨_,_,if_pos hb⟩
      · exact .inl (if_neg hb)
    · by_cases hb : b = a
      · have z':=(if_pos hb).symm.trans z
        cases z'
        subst hb
        exact ⟨ha,by rw [List.length_map]; exact hl,vs,_,rv,ha⟩
      · have z':=(if_neg hb).symm.trans z
        cases z'
    · by_cases hb : b = a
      · exact hb
      · exact absurd (if_neg hb) z
end L2
namespace L2
open PySem PySem.Spec PyProof.Rows
theorem walk_of {l : PySem.W.OpenLaw} {n k : Nat} {q : Program} {loose : List Str} {XP : (Str→Option Value)→Heap→Prop} {YP : World→Heap→Prop} {d : DefRec} {K : Params→PySem.W.Frag} {CX : World→CXT} {sp : World→Sp} {x : Str}
    (hn : l.most = some n) (hn2 : n ≤ sizeLine) (hdf : d.params.defaults = []) (hr : Room k callerA)
    (hY : ∀ (w : World) (h : Heap),YP w h→(K w.params).In h)
    (F : ∀ (w : World) (mg : Str→Option Value) (fa : Addr) (h : Heap),(K w.params).In h→h.Ns mainGlobals mg→mg d.name = some (.ref fa) →
      ∃ fd : FuncData,(∀ (s : Shared) (u : Value),BindsTo s fd ⟨[u],[]⟩ [(x,u)]) ∧
        ∀ base : Heap,(K w.params).In base→base.Ns mainGlobals mg→FnOk l.prog w (K w.params) mg base (CX w) k fa fd [x] (sp w))
    (hsp : ∀ (w : World) (H : Hp) (a : Addr) (ns : List Int),ns.length ≤ n→Only H→SqL (K w.params) H a (ns.map V.int)→sp w [.ref a] H (fun v _=>v = .bl true) fun _ _ _=>False)
    (hCX : ∀ (w : World) (H : Hp) (s : Shared) (e : Value) (s' : Shared),CX w [] H s (fun _ _ _=>False) e s'→False) :
    PySem.W.WalkO q loose XP YP l.row.toRowW d [] (fun f vs=>PySem.call f vs):=by
  refine Att.attach_call hn hdf fun w s₀ s₁ mg mb fa o pm cd doc a vs ns G Y ho hd hcd hmg hobj hints hlen hg=>?_
  have KX:=hY w _ Y
  obtain ⟨fd,hb,hF⟩:=F w mg fa _ KX G.T.g hmg
  exact law_call KX G.T.g G.T.b G.T.builtins G.T.nolimit hg hobj hints (Nat.le_trans hlen hn2) hr hF hb (fun H hO hS=>hsp w H a ns hlen hO hS) fun H e s'=>hCX w H s₁ e s'
end L2
namespace L2
open PySem PySem.Spec PyProof.Rows
noncomputable def defArgs (s : Stmt) : Arguments:=match s with
  | .FunctionDef _ a _ _ _ _ _ _ _ _=>a
  | _=>{ posonlyargs:=[],args:=[],vararg:=none,kwonlyargs:=[],kw_defaults:=[],kwarg:=none,defaults:=[] }
noncomputable def defBody (s : Stmt) : List Stmt:=match s with
  | .FunctionDef _ _ b _ _ _ _ _ _ _=>b
  | _=>[]
noncomputable def defScope (s : Stmt) : Scope:=match s with
  | .FunctionDef _ _ _ _ _ _ sc _ _ _=>sc
  | _=>{ kind:=.function,names:=[],isGenerator:=false,isCoroutine:=false }
noncomputable abbrev CX0 : CXT:=fun _ _ _ _ _ _=>False
noncomputable abbrev E0 : XK:=fun _ _ _=>False
theorem pass0 {X : Cx} : Passes CX0 X E0:=fun _ _ _ _ _ _ _ h=>h.elim
structure Fun (K : PySem.W.Frag) (x qual : Str) (st : Stmt) (f : Addr) (fd : FuncData) : Prop where
  ex : ∃ (oc : Value) (od : Option Addr) (kV doc pm : Value) (an : Option Addr) (cdv ct : Value) (osl : Array (Option Value)),
    fd = PySem.W.fnOf x qual (defArgs st) (defBody st) (defScope st) .none kV doc pm an cdv ct∧K.lookup f = some ⟨oc,od,.func fd,osl⟩∧PySem.W.codeIn K cdv qual = true
  kp : PySem.W.keepIn K (.ref f) = true
section
variable {P : Program} {w : World} {K : PySem.W.Frag} {mg : Str→Option Value} {base : Heap}
theorem Fun.ok {x qual : Str} {st : Stmt} {f : Addr} {fd : FuncData} {N ps : List Str} {k : Nat} {sp : Sp} (F : Fun K x qual st f fd) (S : FnScope N ps (defScope st)) (len : ∀ vs H Q E,sp vs H Q E→vs.length = ps.length)
    (hbody : ∀ (cdv : Value) (A : Around) (outer : List Env) (s : Shared) (H : Hp) (vs : List V) (Q : VK) (E : XK),Room k (A.deeper (envOfC qual (defScope st) s.heap.objs.size f cdv))→sp vs H Q E →
      ∃ t,PSs (cxOf CX0 P w K mg base N qual (defScope st) f cdv A outer s H E).nox (defBody st) t∧t { nx:=fun _ H'=>Q .non H',rt:=Q } (start N vs) H) : FnOk P w K mg base CX0 (k + 1) f fd ps sp:=by
  obtain ⟨oc,od,kV,doc,pm,an,cdv,ct,osl,rfl,lk,hcd⟩:=F.ex
  refine fn_of lk hcd S len fun A outer s H vs Q E hr hsp=>?_
  obtain ⟨t,h,q⟩:=hbody cdv A outer s H vs Q E hr hsp
  exact ⟨t,h.nox,q⟩
theorem Fun.binds {x qual : Str} {st : Stmt} {f : Addr} {fd : FuncData} {ps : List Str} (F : Fun K x qual st f fd)
    (h : ∀ (kV doc pm : Value) (an : Option Addr) (cdv ct : Value) (us : List Value),us.length = ps.length→bindArgs (PySem.W.fnOf x qual (defArgs st) (defBody st) (defScope st) .none kV doc pm an cdv ct) ⟨us,[]⟩ = pure (ps.zip us)) : Binds K fd ps []:=by
  obtain ⟨oc,od,kV,doc,pm,an,cdv,ct,osl,rfl,lk,hcd⟩:=F.ex
  exact .all (h kV doc pm an cdv ct)
theorem fun_mk {x qual : Str} {st : Stmt} {f : Addr} {oc : Value} {od an : Option Addr} {osl : Array (Option Value)} {kV doc pm cdv ct : Value} (l : K.lookup f = some ⟨oc,od,.func (PySem.W.fnOf x qual (defArgs st) (defBody st) (defScope st) .none kV doc pm an cdv ct),osl⟩)
    (c : PySem.W.codeIn K cdv qual = true) (k : PySem.W.keepIn K (.ref f) = true) : Fun K x qual st f (PySem.W.fnOf x qual (defArgs st) (defBody st) (defScope st) .none kV doc pm an cdv ct):=⟨⟨oc,od,kV,doc,pm,an,cdv,ct,osl,rfl,l,c⟩,k⟩
end
theorem small1000 {n : Nat} (h : n ≤ 1000) : n < sizeLine:=Nat.lt_of_le_of_lt h (by decide)
section
variable {X : Cx}
theorem pv (i : Nat) {x : Str} {pos : Pos} (hN : X.N[i]? = some x:=by rfl) (hv : Vis X.env.scope x:=by first | exact Or.inl rfl | exact Or.inr (Or.inl rfl) | exact Or.inr (Or.inr rfl)) (hd : (x == ("__debug__" : Str)) = false:=by decide)
    (hcd : (x == ("__classdict__" : Str)) = false:=by decide) : PE X (.Name x pos) (tVar i):=pe_var hN hv hd hcd
end
noncomputable def Same (H H' : Hp) : Prop:=∀ b o,H b = some o→H' b = some o
theorem Same.refl (H : Hp) : Same H H:=fun _ _ h=>h
theorem Same.trans {H H1 H2 : Hp} (a : Same H H1) (b : Same H1 H2) : Same H H2:=fun c o h=>b c o (a c o h)
theorem Same.free {H H' : Hp} (e : Same H H') {l : Addr} (h : H' l = Option.none) : H l = Option.none:=by
  cases q : H l with
  | none=>rfl
  | some o =>
    rw [e l o q] at h
    cases h
theorem Same.seq {K : PySem.W.Frag} {H H' : Hp} {a : Addr} {xs : List V} (e : Same H H') (h : SqL K H a xs) : SqL K H' a xs:=by
  rcases h with (h | ⟨o,h⟩) | h
  · exact .inl (.inl (e _ _ h))
  · exact .inl (.inr ⟨o,e _ _ h⟩)
  · exact .inr h
end L2
end
section
set_option Elab.async false
set_option linter.all false
set_option maxRecDepth 100000
set_option maxHeartbeats 4000000
namespace L2
open PySem PySem.Spec PyProof.Rows
section
variable {κ : Type} [DecidableEq κ]
noncomputable def valV (kvs : List (κ × V)) (k : κ) : Option V:=(kvs.find? fun kv=>decide (kv.1 = k)).map (·.2)
noncomputable def putK (kvs : List (κ × V)) (k : κ) (v : V) : List (κ × V) :=
  if (kvs.any fun kv=>decide (kv.1 = k)) = true then kvs.map (fun kv=>if kv.1 = k then (kv.1,v) else kv) else kvs++[(k,v)]
noncomputable def dropK (kvs : List (κ × V)) (k : κ) : List (κ × V):=kvs.filter fun kv=>decide (kv.1 ≠ k)
theorem valV_pos {p : κ × V} {r : List (κ × V)} {k : κ} (e : p.1 = k) : valV (p::r) k = some p.2:=by simp [valV,List.find?_cons,e]
theorem valV_neg {p : κ × V} {r : List (κ × V)} {k : κ} (e : ¬ p.1 = k) : valV (p::r) k = valV r k:=by simp [valV,List.find?_cons,e]
theorem valV_any (k : κ) : ∀ kvs : List (κ × V),(kvs.any fun kv=>decide (kv.1 = k)) = (valV kvs k).isSome
  | []=>rfl
  | p::r=>by
    rw [List.any_cons]
    by_cases e : p.1 = k
    · simp only [valV_pos e,decide_eq_true e,Bool.true_or,Option.isSome_some]
    · rw [valV_neg e,decide_eq_false e,Bool.false_or]; exact valV_any k r
theorem length_putK (kvs : List (κ × V)) (k : κ) (v : V) : (putK kvs k v).length ≤ kvs.length + 1:=by
  unfold putK
  split
  · rw [List.length_map]; omega
  · rw [List.length_append,List.length_cons,List.length_nil]; omega
theorem RelO.isSome_eq {o : Option V} {u : Option Value} (r : RelO o u) : o.isSome = u.isSome:=by
  cases o with
  | none=>cases u with
    | none=>rfl
    | some _=>exact (show False from r).elim
  | some _=>cases u with
    | none=>exact (show False from r).elim
    | some _=>rfl
theorem RelO.getD {o : Option V} {u : Option Value} {d : V} {d' : Value} (r : RelO o u) (rd : RelV d d') : RelV (o.getD d) (u.getD d'):=by
  cases o with
  | none=>cases u with
    | none=>exact rd
    | some _=>exact (show False from r).elim
  | some _=>cases u with
    | none=>exact (show False from r).elim
    | some _=>exact r
theorem KV.val {kvs : List (κ × V)} {vs : List (κ × Value)} (r : KV kvs vs) (k : κ) : RelO (valV kvs k) (valueAt vs k):=by
  unfold KV at r
  induction r with
  | nil=>exact True.intro
  | @cons p q ps qs h t ih =>
    obtain ⟨h1,h2⟩:=h
    by_cases e : p.1 = k
    · have e' : q.1 = k:=h1.symm.trans e
      have b : valueAt (q::qs) k = some q.2:=by simp [valueAt,List.find?_cons,e']
      rw [valV_pos e,b]; exact h2
    · have e' : ¬ q.1 = k:=fun z=>e (h1.trans z)
      have b : valueAt (q::qs) k = valueAt qs k:=by simp [valueAt,List.find?_cons,e']
      rw [valV_neg e,b]; exact ih
theorem KV.any {kvs : List (κ × V)} {vs : List (κ × Value)} (r : KV kvs vs) (k : κ) : (kvs.any fun kv=>decide (kv.1 = k)) = vs.any fun kv=>decide (kv.1 = k):=by
  unfold KV at r
  induction r with
  | nil=>rfl
  | cons h t ih=>rw [List.any_cons,List.any_cons,ih,h.1]
theorem KV.repl {kvs : List (κ × V)} {vs : List (κ × Value)} (r : KV kvs vs) (k : κ) {y : V} {u : Value} (ry : RelV y u) :
    KV (kvs.map fun kv=>if kv.1 = k then (kv.1,y) else kv) (vs.map fun kv=>if kv.1 = k then (kv.1,u) else kv):=by
  unfold KV at r ⊢
  induction r with
  | nil=>exact .nil
  | @cons p q ps qs h t ih =>
    rw [List.map_cons,List.map_cons]
    refine .cons ?_ ih
    obtain ⟨h1,h2⟩:=h
    by_cases e : p.1 = k
    · rw [if_pos e,if_pos (h1.symm.trans e)]; exact ⟨h1,ry⟩
    · rw [if_neg e,if_neg (fun z=>e (h1.trans z))]; exact ⟨h1,h2⟩
theorem KV.put {kvs : List (κ × V)} {vs : List (κ × Value)} (r : KV kvs vs) (k : κ) {y : V} {u : Value} (ry : RelV y u) : KV (putK kvs k y) (stored vs k u):=by
  unfold putK stored
  rw [r.any k]
  by_cases e : (vs.any fun kv=>decide (kv.1 = k)) = true
  · rw [if_pos e,if_pos e]; exact r.repl k ry
  · rw [if_neg e,if_neg e]; exact Paired.snoc r ⟨rfl,ry⟩
theorem KV.drop {kvs : List (κ × V)} {vs : List (κ × Value)} (r : KV kvs vs) (k : κ) : KV (dropK kvs k) (without vs k):=by
  unfold KV at r ⊢
  unfold dropK without
  induction r with
  | nil=>exact .nil
  | @cons p q ps qs h t ih =>
    obtain ⟨h1,h2⟩:=h
    rw [List.filter_cons,List.filter_cons]
    by_cases e : p.1 = k
    · have a : ¬ decide (p.1 ≠ k) = true:=by simp [e]
      have b : ¬ decide (q.1 ≠ k) = true:=by simp [h1.symm.trans e]
      rw [if_neg a,if_neg b]; exact ih
    · have e' : ¬ q.1 = k:=fun z=>e (h1.trans z)
      have a : decide (p.1 ≠ k) = true:=by simp [e]
      have b : decide (q.1 ≠ k) = true:=by simp [e']
      rw [if_pos a,if_pos b]; exact .cons ⟨h1,h2⟩ ih
theorem KV.keys {kvs : List (κ × V)} {vs : List (κ × Value)} (r : KV kvs vs) : kvs.map (·.1) = vs.map (·.1):=by
  unfold KV at r
  induction r with
  | nil=>rfl
  | cons h t ih=>rw [List.map_cons,List.map_cons,ih,h.1]
theorem KV.length {kvs : List (κ × V)} {vs : List (κ × Value)} (r : KV kvs vs) : kvs.length = vs.length:=Paired.length r
end
theorem kV_is {P : Program} {w : World} {k : Key} {u : Value} (r : RelV (kV k) u) : (mixKind P w).is k u = true:=by
  cases k with
  | inl i=>obtain ⟨t,e⟩:=(show ∃ t,u = Value.int i t from r); subst e; exact mixKind_int P w i t
  | inr x=>obtain ⟨t,e⟩:=(show ∃ t,u = Value.str x t from r); subst e; exact mixKind_str P w x t
theorem items_are {P : Program} {w : World} : ∀ {ks : List Key} {us : List Value},Vals (ks.map kV) us→ItemsAre (mixKind P w) ks us
  | [],_,r=>by rw [List.map_nil] at r; cases r; exact .nil
  | k::ks,_,r=>by
    rw [List.map_cons] at r
    cases r with
    | cons h t=>exact .cons (kV_is h) (items_are t)
noncomputable abbrev KT (H : Hp) : List (List Key × V)→List (List Key × Addr × Value)→Prop:=Paired fun p q=>p.1 = q.1∧H q.2.1 = some (.tup (p.1.map kV))∧RelV p.2 q.2.2
theorem KT.val {H : Hp} {kvs : List (List Key × V)} {xs : List (List Key × Addr × Value)} (r : KT H kvs xs) (k : List Key) : RelO (valV kvs k) ((atKey xs k).map (·.2)):=by
  induction r with
  | nil=>exact True.intro
  | @cons p q ps qs h t ih =>
    obtain ⟨h1,_,h2⟩:=h
    by_cases e : p.1 = k
    · have e' : q.1 = k:=h1.symm.trans e
      have b : atKey (q::qs) k = some q.2:=by simp [atKey,List.find?_cons,e']
      rw [valV_pos e,b]; exact h2
    · have e' : ¬ q.1 = k:=fun z=>e (h1.trans z)
      have b : atKey (q::qs) k = atKey qs k:=by simp [atKey,List.find?_cons,e']
      rw [valV_neg e,b]; exact ih
theorem KT.repl {H : Hp} {kvs : List (List Key × V)} {xs : List (List Key × Addr × Value)} (r : KT H kvs xs) (k : List Key) {y : V} {u : Value} (ry : RelV y u) :
    KT H (kvs.map fun kv=>if kv.1 = k then (kv.1,y) else kv) (xs.map (putAt k u)):=by
  induction r with
  | nil=>exact .nil
  | @cons p q ps qs h t ih =>
    rw [List.map_cons,List.map_cons]
    refine .cons ?_ ih
    obtain ⟨h1,h2,h3⟩:=h
    unfold putAt
    by_cases e : p.1 = k
    · rw [if_pos e,if_pos (h1.symm.trans e)]; exact ⟨h1,h2,ry⟩
    · rw [if_neg e,if_neg (fun z=>e (h1.trans z))]; exact ⟨h1,h2,h3⟩
theorem KT.put {H : Hp} {kvs : List (List Key × V)} {xs : List (List Key × Addr × Value)} (r : KT H kvs xs) (k : List Key) {b : Addr} {y : V} {u : Value} (hb : H b = some (.tup (k.map kV))) (ry : RelV y u) :
    KT H (putK kvs k y) (storedH xs k b u):=by
  have e : (kvs.any fun kv=>decide (kv.1 = k)) = (atKey xs k).isSome:=by
    rw [valV_any,(r.val k).isSome_eq,Option.isSome_map]
  unfold putK storedH
  rw [e]
  by_cases q : (atKey xs k).isSome = true
  · rw [if_pos q,if_pos q]; exact r.repl k ry
  · rw [if_neg q,if_neg q]; exact Paired.snoc r ⟨rfl,hb,ry⟩
theorem KT.keeps {H H' : Hp} {kvs : List (List Key × V)} {xs : List (List Key × Addr × Value)} (r : KT H kvs xs) (ht : ∀ b ys,H b = some (.tup ys)→H' b = some (.tup ys)) : KT H' kvs xs :=
  Paired.mapP r fun _ _ z=>⟨z.1,ht _ _ z.2.1,z.2.2⟩
section
variable {P : Program} {w : World} {H : Hp} {h : Heap} {a : Addr}
theorem rd_of {u : HO} (ok : HOk P w H h) (e : Rd H a u) : ObjOk P w H h a u:=e.ok ok
theorem dk_rd {kvs : List (Key × V)} (ok : HOk P w H h) (e : Rd H a (.dK kvs)) : kvs.length ≤ sizeLine∧(a == sysModules) = false∧∃ vs,KV kvs vs∧h.DictOf (mixKind P w) a vs :=
  show ObjOk P w H h a (.dK kvs) from rd_of ok e
theorem dk_of {kvs : List (Key × V)} (ok : HOk P w H h) (e : H a = some (.dK kvs)) : kvs.length ≤ sizeLine∧(a == sysModules) = false∧∃ vs,KV kvs vs∧h.DictOf (mixKind P w) a vs:=dk_rd ok (.inl e)
theorem key_of {ks : List Key} (ok : HOk P w H h) (e : H a = some (.tup (ks.map kV))) : (tupleKind (mixKind P w)).is h ks a:=by
  obtain ⟨_,its,r,o,h1,h2,n,h3⟩:=(show ObjOk P w H h a (.tup (ks.map kV)) from ok a _ e)
  exact ⟨o,its.toArray,n,h1,h2,h3,by simpa using items_are r⟩
theorem dt_rd {kvs : List (List Key × V)} (ok : HOk P w H h) (e : Rd H a (.dT kvs)) : kvs.length ≤ sizeLine∧(a == sysModules) = false ∧
    ∃ xs,KT H kvs xs∧h.DictOfH (tupleKind (mixKind P w)) a xs:=by
  obtain ⟨z,y,xs,r,o,es,ep,h1,h2,h3,h4,h5⟩:=(show ObjOk P w H h a (.dT kvs) from rd_of ok e)
  refine ⟨z,y,xs,r,o,es,ep,h1,h2,h3,h4,fun x hx=>?_,h5⟩
  have all : ∀ {l : List (List Key × V)} {m : List (List Key × Addr × Value)},KT H l m→∀ x ∈ m,(tupleKind (mixKind P w)).is h x.1 x.2.1:=by
    intro l m q
    induction q with
    | nil=>intro x hx; exact nomatch hx
    | @cons p q ps qs hq t ih =>
      intro x hx
      rcases List.mem_cons.mp hx with e | hx
      · subst e
        exact key_of ok (by rw [← hq.1]; exact hq.2.1)
      · exact ih x hx
  exact all r x hx
theorem dt_of {kvs : List (List Key × V)} (ok : HOk P w H h) (e : H a = some (.dT kvs)) : kvs.length ≤ sizeLine∧(a == sysModules) = false ∧
    ∃ xs,KT H kvs xs∧h.DictOfH (tupleKind (mixKind P w)) a xs:=dt_rd ok (.inl e)
end
noncomputable def DGet (H : Hp) (a : Addr) (y : V) (r : Option V) : Prop :=
  (∃ kvs k,Rd H a (.dK kvs)∧y = kV k∧r = valV kvs k)∨∃ kvs k b,Rd H a (.dT kvs)∧y = .ref b∧H b = some (.tup (k.map kV))∧r = valV kvs k
noncomputable def DPut (H : Hp) (a : Addr) (y v : V) (H' : Hp) : Prop :=
  (∃ kvs k,H a = some (.dK kvs)∧y = kV k∧kvs.length < sizeLine∧H' = upd H a (.dK (putK kvs k v))) ∨
  ∃ kvs k b,H a = some (.dT kvs)∧y = .ref b∧H b = some (.tup (k.map kV))∧kvs.length < sizeLine∧H' = upd H a (.dT (putK kvs k v))
theorem DGet.k {H : Hp} {a : Addr} {kvs : List (Key × V)} {k : Key} (e : H a = some (.dK kvs)) : DGet H a (kV k) (valV kvs k):=.inl ⟨kvs,k,.inl e,rfl,rfl⟩
theorem DGet.t {H : Hp} {a b : Addr} {kvs : List (List Key × V)} {k : List Key} (e : H a = some (.dT kvs)) (eb : H b = some (.tup (k.map kV))) : DGet H a (.ref b) (valV kvs k):=.inr ⟨kvs,k,b,.inl e,rfl,eb,rfl⟩
theorem DPut.k {H : Hp} {a : Addr} {kvs : List (Key × V)} {k : Key} {v : V} (e : H a = some (.dK kvs)) (hl : kvs.length < sizeLine) : DPut H a (kV k) v (upd H a (.dK (putK kvs k v))):=.inl ⟨kvs,k,e,rfl,hl,rfl⟩
theorem DPut.t {H : Hp} {a b : Addr} {kvs : List (List Key × V)} {k : List Key} {v : V} (e : H a = some (.dT kvs)) (eb : H b = some (.tup (k.map kV))) (hl : kvs.length < sizeLine) :
    DPut H a (.ref b) v (upd H a (.dT (putK kvs k v))):=.inr ⟨kvs,k,b,e,rfl,eb,hl,rfl⟩
section
variable {X : Cx} {pins : List (Addr × Obj)} {σ : St} {H : Hp} {s : Shared} {a : Addr} {y v : V} {u r : Value} {o : Option V} {A : Around} {E : Value→Shared→Prop}
theorem Inv.big (I : Inv X pins σ H s) : sysModules < s.heap.objs.size:=by
  have h : mainGlobals < s.heap.objs.size:=(I.mod.glob.keeps I.bk).lt
  exact Nat.lt_trans (by decide) h
theorem d_in {Q : Value→Shared→Prop} (hu : A.units + 1 < cLine) (I : Inv X pins σ H s) (g : DGet H a y o) (ry : RelV y u) (h : ∀ s',Inv X pins σ H s'→Q (.bool o.isSome) s') :
    wpAny (model X.prog X.w) A (compareOp .In u (.ref a)) Q E s:=by
  rcases g with ⟨kvs,k,e,ey,l⟩ | ⟨kvs,k,b,e,ey,eb,l⟩
  · subst ey
    obtain ⟨z,hd,vs,rel,dd⟩:=dk_rd I.hok e
    refine wpAny_in_of (kV_is ry) hd dd.mapOf ?_
    rw [← (rel.val k).isSome_eq,← l]
    exact h _ (I.tok _)
  · subst ey
    cases (show u = Value.ref b from ry)
    obtain ⟨z,hd,xs,rel,dd⟩:=dt_rd I.hok e
    refine wpAny_in_heap (tupleKind_room_in1 hu) (key_of I.hok eb) hd dd ?_
    have q:=(rel.val k).isSome_eq
    rw [Option.isSome_map] at q
    rw [← q,← l]
    exact h _ (I.tok _)
theorem d_notIn {Q : Value→Shared→Prop} (hu : A.units + 1 < cLine) (I : Inv X pins σ H s) (g : DGet H a y o) (ry : RelV y u) (h : ∀ s',Inv X pins σ H s'→Q (.bool (!o.isSome)) s') :
    wpAny (model X.prog X.w) A (compareOp .NotIn u (.ref a)) Q E s:=by
  rcases g with ⟨kvs,k,e,ey,l⟩ | ⟨kvs,k,b,e,ey,eb,l⟩
  · subst ey
    obtain ⟨z,hd,vs,rel,dd⟩:=dk_rd I.hok e
    refine wpAny_notIn_of (kV_is ry) hd dd.mapOf ?_
    rw [← (rel.val k).isSome_eq,← l]
    exact h _ (I.tok _)
  · subst ey
    cases (show u = Value.ref b from ry)
    obtain ⟨z,hd,xs,rel,dd⟩:=dt_rd I.hok e
    refine wpAny_notIn_heap (tupleKind_room_in1 hu) (key_of I.hok eb) hd dd ?_
    have q:=(rel.val k).isSome_eq
    rw [Option.isSome_map] at q
    rw [← q,← l]
    exact h _ (I.tok _)
theorem d_write {h' : Heap} {t' : Nat} {ob : HO} (I : Inv X pins σ H s) (mu : Mut (H a)) (hs : Heap.SameBut a s.heap h') (he : ∃ q,h'.get? a = some q) (new : ObjOk X.prog X.w (upd H a ob) h' a ob) :
    Inv X pins σ (upd H a ob) { s with heap:=h',toks:=t' } :=
  I.write (x:=a) (e:=a) mu (.inl rfl) (fun b q hb z=>(hs.2 b hb).trans z) he new
theorem dk_new {P : Program} {w : World} {H' : Hp} {h' : Heap} {kvs : List (Key × V)} {vs : List (Key × Value)} (z : kvs.length ≤ sizeLine) (hd : (a == sysModules) = false) (rel : KV kvs vs) (dd : h'.DictOf (mixKind P w) a vs) :
    ObjOk P w H' h' a (.dK kvs):=⟨z,hd,vs,rel,dd⟩
theorem d_setItem {H' : Hp} {Q : Unit→Shared→Prop} (hu : A.units + 1 < cLine) (I : Inv X pins σ H s) (g : DPut H a y v H') (ry : RelV y u) (rv : RelV v r) (h : ∀ s',Inv X pins σ H' s'→Q () s') :
    wpAny (model X.prog X.w) A (setItem (.ref a) u r) Q E s:=by
  rcases g with ⟨kvs,k,e,ey,l,eH⟩ | ⟨kvs,k,b,e,ey,eb,l,eH⟩
  · subst ey eH
    obtain ⟨z,hd,vs,rel,dd⟩:=dk_of I.hok e
    have hz : vs.length ≤ sizeLine:=by rw [← rel.length]; exact z
    have hl : (putK kvs k v).length ≤ sizeLine:=by have:=length_putK kvs k v; omega
    refine wpAny_setItem_pairs (hsz:=hz) (kV_is ry) dd fun h' dd' hs=>h _ ?_
    have he : ∃ q,h'.get? a = some q:=let ⟨q,_,_,hq,_⟩:=dd'; ⟨q,hq⟩
    exact d_write I (by rw [e]; exact True.intro) hs he (dk_new hl hd (rel.put k rv) dd')
  · subst ey eH
    cases (show u = Value.ref b from ry)
    obtain ⟨z,hd,xs,rel,dd⟩:=dt_of I.hok e
    have hz : xs.length ≤ sizeLine:=by rw [← Paired.length rel]; exact z
    have hl : (putK kvs k v).length ≤ sizeLine:=by have:=length_putK kvs k v; omega
    refine wpAny_setItem_heap (hsz:=hz) (tupleKind_room_in1 hu) (key_of I.hok eb) dd fun h' dd' hs=>h _ ?_
    obtain ⟨q,es,ep,hq,h2,h3,h4,_,h5⟩:=dd'
    refine d_write I (by rw [e]; exact True.intro) hs ⟨q,hq⟩ ⟨hl,hd,_,(rel.put k eb rv).keeps fun c ys ec=>?_,q,es,ep,hq,h2,h3,h4,h5⟩
    rw [upd_ne (ne_of ec e (fun z=>nomatch z))]
    exact ec
end
section
variable {X : Cx} {pins : List (Addr × Obj)} {σ : St} {H : Hp} {s : Shared} {a : Addr} {kvs : List (Key × V)} {k : Key} {u : Value} {A : Around} {E : Value→Shared→Prop}
end
noncomputable def NoSl (i : Expr) : Prop:=∀ ov iv,subscripted i false ov iv = operate [ov,iv] (getItem ov iv)
theorem subD_of {prog : Program} {w : World} {A : Around} {E : Value→Shared→Prop} {s : Shared} {env : Env} {value slice : Expr} {pos : Pos} {T id : String} {Q : Value→Shared→Prop}
    (hl : typeLookup (.type T) "__getitem__" = pure (some (.builtin id))) (hs : NoSl slice)
    (h : wpAny (model prog w) A (eval value env) (fun o s₁=>wpAny (model prog w) A (eval slice env) (fun i s₂=>s₂.TypeIs o T∧wpAny (model prog w) A (getItem o i) Q E s₂) E s₁) E s) :
    wpAny (model prog w) A (eval (.Subscript value slice pos) env) Q E s:=by
  refine Subscript_ (wpAny_mono h (fun o s₁ h₁=>wpAny_mono h₁ (fun i s₂ h₂=>?_) fun _ _ x=>x) fun _ _ x=>x)
  obtain ⟨hT,h₂⟩:=h₂
  unfold subscriptTail
  refine wpAny_bind ?_
  rw [getitemInPython_of_ne hT.not_modules]
  refine wpAny_bind (wpAny_specialOf hT hl ?_)
  have fin : wpAny (model prog w) A (subscripted slice false o i) (fun r s₃=>wpAny (model prog w) A (letTemporaryGo value o r >>= fun _=>pure r) Q E s₃) E s₂:=by
    rw [hs o i]
    exact wpAny_operating (wpAny_mono h₂ (fun r s₃ h₃=>wpAny_bind (wpAny_letTemporaryGo (wpAny_pure h₃))) fun _ _ x=>x)
  first
    | exact wpAny_pure (wpAny_bind fin)
    | exact wpAny_bind (wpAny_pure (wpAny_bind fin))
    | exact wpAny_bind fin
noncomputable def tDIn (ty td : TE) : TE:=fun σ H Q=>ty σ H fun y H1=>td σ H1 fun x H2=>∃ a o,x = .ref a∧DGet H2 a y o∧Q (.bl o.isSome) H2
noncomputable def tDNotIn (ty td : TE) : TE:=fun σ H Q=>ty σ H fun y H1=>td σ H1 fun x H2=>∃ a o,x = .ref a∧DGet H2 a y o∧Q (.bl (!o.isSome)) H2
noncomputable def sDPut (td ty tv : TE) : TS:=fun D σ H=>tv σ H fun v H1=>td σ H1 fun x H2=>ty σ H2 fun y H3=>∃ a H4,x = .ref a∧DPut H3 a y v H4∧D.nx σ H4
section
variable {X : Cx} {o i e value : Expr} {pos pos' tpos : Pos} {td ty tv : TE}
theorem pc_din (hu : X.A.units + 1 < cLine) (hi : PE X i ty) (ho : PE X o td) : PC X .In i o (tDIn ty td):=by
  intro pins s σ H Q I h
  refine thn (hi pins s σ H _ I h) fun iv s1 ⟨y,H1,I1,ry,q1⟩=>thn (ho pins s1 σ H1 _ I1 q1) fun u s2 ⟨x,H2,I2,rx,a,ov,ex,g,q2⟩=>?_
  subst ex
  obtain rfl : u = Value.ref a:=rx
  exact d_in hu I2 g ry fun s3 I3=>⟨.bl ov.isSome,H2,I3,rfl,q2⟩
theorem pc_dnotin (hu : X.A.units + 1 < cLine) (hi : PE X i ty) (ho : PE X o td) : PC X .NotIn i o (tDNotIn ty td):=by
  intro pins s σ H Q I h
  refine thn (hi pins s σ H _ I h) fun iv s1 ⟨y,H1,I1,ry,q1⟩=>thn (ho pins s1 σ H1 _ I1 q1) fun u s2 ⟨x,H2,I2,rx,a,ov,ex,g,q2⟩=>?_
  subst ex
  obtain rfl : u = Value.ref a:=rx
  exact d_notIn hu I2 g ry fun s3 I3=>⟨.bl (!ov.isSome),H2,I3,rfl,q2⟩
theorem ps_dput (hu : X.A.units + 1 < cLine) (ho : PE X o td) (hi : PE X i ty) (hv : PE X value tv) (hs : swapsWith value (some (.Subscript o i pos')) pos.line X.env = pure false) :
    PS X (.Assign [.Subscript o i pos'] value pos) (sDPut td ty tv):=by
  intro pins s σ H D I h
  refine wpAny_Assign_Subscript (thn (hv pins s σ H _ I h) fun r s1 ⟨v,H1,I1,rv,q1⟩=>thn (ho pins s1 σ H1 _ I1 q1) fun u s2 ⟨x,H2,I2,rx,q2⟩=>thn (hi pins s2 σ H2 _ I2 q2) fun iv s3 ⟨y,H3,I3,ry,a,H4,ex,g,q3⟩=>?_) hs
  subst ex
  obtain rfl : u = Value.ref a:=rx
  exact d_setItem hu I3 g ry rv fun s4 I4=>⟨σ,H4,I4,q3⟩
end
theorem dk_empty {P : Program} {w : World} {H : Hp} (h : Heap) (hb : sysModules < h.objs.size) : ObjOk P w H (h.push { cls:=.type "dict",data:=.dict #[] }) h.objs.size (.dK []) :=
  ⟨Nat.zero_le _,beq_eq_false_iff_ne.mpr (Ne.symm (Nat.ne_of_lt hb)),[],.nil,Heap.DictOf.new h⟩
section
variable {X : Cx} {pos : Pos}
end
noncomputable def tPairs : List (TE × TE)→St→Hp→(List (V × V)→Hp→Prop)→Prop
  | [],_,H,Q=>Q [] H
  | (tk,tv)::r,σ,H,Q=>tk σ H fun x H1=>tv σ H1 fun y H2=>tPairs r σ H2 fun ps H3=>Q ((x,y)::ps) H3
noncomputable abbrev VV : List (V × V)→List (Value × Value)→Prop:=Paired fun p q=>RelV p.1 q.1∧RelV p.2 q.2
noncomputable def PPs (X : Cx) (pos : Pos) (keys : List (Option Expr)) (values : List Expr) (trs : List (TE × TE)) : Prop :=
  ∀ (pins : List (Addr × Obj)) (s : Shared) (σ : St) (H : Hp) (Q : List (V × V)→Hp→Prop),Inv X pins σ H s→tPairs trs σ H Q →
    wpAny (model X.prog X.w) X.A (evalPairs (pairTrees keys values X.env pos)) (fun vs s'=>∃ ps H',Inv X pins σ H' s'∧VV ps vs∧Q ps H') X.xe s
theorem pps_nil {X : Cx} {pos : Pos} : PPs X pos [] [] []:=fun pins s σ H Q I h=>pairTrees_nil_walk ⟨[],H,I,.nil,h⟩
theorem pps_cons {X : Cx} {pos : Pos} {k v : Expr} {ks : List (Option Expr)} {vs : List Expr} {tk tv : TE} {trs : List (TE × TE)} (hk : PE X k tk) (hv : PE X v tv) (hr : PPs X pos ks vs trs) :
    PPs X pos (some k::ks) (v::vs) ((tk,tv)::trs):=fun pins s σ H Q I h =>
  pairTrees_cons_walk (thn (hk pins s σ H _ I h) fun u s1 ⟨x,H1,I1,rx,q1⟩=>thn (hv pins s1 σ H1 _ I1 q1) fun w2 s2 ⟨y,H2,I2,ry,q2⟩ =>
    thn (hr pins s2 σ H2 _ I2 q2) fun ws s3 ⟨ps,H3,I3,rel,q3⟩=>⟨(x,y)::ps,H3,I3,.cons ⟨rx,ry⟩ rel,q3⟩)
noncomputable def mergeK (kvs more : List (Key × V)) : List (Key × V):=more.foldl (fun acc kv=>putK acc kv.1 kv.2) kvs
theorem KV.merge : ∀ {more : List (Key × V)} {rs : List (Key × Value)} {kvs : List (Key × V)} {vs : List (Key × Value)},KV more rs→KV kvs vs→KV (mergeK kvs more) (merged vs rs):=by
  intro more rs kvs vs r
  unfold KV at r
  induction r generalizing kvs vs with
  | nil=>intro q; exact q
  | @cons p q ps qs h t ih =>
    intro r0
    have e : KV (putK kvs p.1 p.2) (stored vs q.1 q.2):=by
      have:=r0.put p.1 h.2
      rw [← h.1]; exact this
    exact ih e
theorem length_mergeK : ∀ (more kvs : List (Key × V)),(mergeK kvs more).length ≤ kvs.length + more.length
  | [],kvs=>by show kvs.length ≤ kvs.length + 0; omega
  | p::r,kvs=>by
    have h1:=length_mergeK r (putK kvs p.1 p.2)
    have h2:=length_putK kvs p.1 p.2
    show (mergeK (putK kvs p.1 p.2) r).length ≤ _
    rw [List.length_cons]; omega
theorem carries_of {P : Program} {w : World} : ∀ {kvs : List (Key × V)} {ws : List (Value × Value)},VV (kvs.map fun kv=>(kV kv.1,kv.2)) ws→∃ rs,Carries (mixKind P w) ws rs∧KV kvs rs
  | [],_,r=>by rw [List.map_nil] at r; cases r; exact ⟨[],True.intro,.nil⟩
  | p::kvs,_,r=>by
    rw [List.map_cons] at r
    cases r with
    | @cons a b as bs h t =>
      obtain ⟨rs,c,q⟩:=carries_of (P:=P) (w:=w) t
      obtain ⟨b1,b2⟩:=b
      exact ⟨(p.1,b2)::rs,⟨kV_is h.1,rfl,c⟩,.cons ⟨rfl,h.2⟩ q⟩
noncomputable def tDisp (trs : List (TE × TE)) : TE:=fun σ H Q=>∀ p,H p = none→tPairs trs σ (upd H p (.dK [])) fun ps H2=>H2 p = some (.dK [])∧∃ kvs : List (Key × V),ps = kvs.map (fun kv=>(kV kv.1,kv.2))∧kvs.length ≤ 15∧Q (.ref p) (upd H2 p (.dK (mergeK [] kvs)))
theorem pe_disp {X : Cx} {pos : Pos} {keys : List (Option Expr)} {values : List Expr} {trs : List (TE × TE)} (h : PPs X pos keys values trs) (hall : keys.all (·.isSome) = true) (hl : keys.length = values.length) (h0 : keys ≠ [])
    (h15 : keys.length ≤ 15) : PE X (.Dict keys values pos) (tDisp trs):=by
  intro pins s σ H Q I q
  have hn:=I.hok.fresh (Nat.le_refl s.heap.objs.size)
  have I1:=I.laid (a:=s.heap.objs.size) (o:=.dK []) (h':=s.heap.push { cls:=.type "dict",data:=.dict #[] }) (t':=s.toks) (fun _ _ q=>Heap.get?_push_of_some _ q) (Nat.le_refl _) (dk_empty s.heap I.big)
  refine wpAny_Dict_walk (knd:=mixKind X.prog X.w) hall hl h0 h15 (thn (h pins _ σ _ _ I1 (q _ hn)) fun ws s2 ⟨ps,H2,I2,rel,e,kvs,ep,lk,q2⟩=>?_)
  subst ep
  obtain ⟨rs,c,rk⟩:=carries_of (P:=X.prog) (w:=X.w) rel
  obtain ⟨z,hd,vs0,r0,dd⟩:=dk_of I2.hok e
  cases r0
  refine ⟨rs,c,dd,fun h' dd' hs=>⟨.ref s.heap.objs.size,_,?_,rfl,q2⟩⟩
  have hz : (mergeK [] kvs).length ≤ sizeLine:=by
    have h1:=length_mergeK kvs []
    rw [List.length_nil] at h1
    rw [sizeLine_eq]; omega
  have he : ∃ q,h'.get? s.heap.objs.size = some q:=let ⟨q,_,_,hq,_⟩:=dd'; ⟨q,hq⟩
  exact d_write I2 (by rw [e]; exact True.intro) hs he (dk_new hz hd (rk.merge .nil) dd')
structure M1 (X : Cx) (o : Expr) (m : Str) (apos : Pos) (e : Expr) (cpos : Pos) : Prop where
  base : attributeBase o m X.env (eval o X.env) = eval o X.env
  few : ((backTo cpos (starEach [e] X.env)).all (fun x=>!x.1) && (backToKw cpos (keywordEach [] X.env)).all (fun x=>x.1.isSome)
    && decide (([e] : List Expr).length + ([] : List Keyword).length + (if ([] : List Keyword).isEmpty then 0 else 1) < 30)) = true
  line : (apos.endLine == cpos.line) = true
  trees : backTo cpos (starEach [e] X.env) = [(false,eval e X.env)]
structure M2 (X : Cx) (o : Expr) (m : Str) (apos : Pos) (e f : Expr) (cpos : Pos) : Prop where
  base : attributeBase o m X.env (eval o X.env) = eval o X.env
  few : ((backTo cpos (starEach [e,f] X.env)).all (fun x=>!x.1) && (backToKw cpos (keywordEach [] X.env)).all (fun x=>x.1.isSome)
    && decide (([e,f] : List Expr).length + ([] : List Keyword).length + (if ([] : List Keyword).isEmpty then 0 else 1) < 30)) = true
  line : (apos.endLine == cpos.line) = true
  trees : backTo cpos (starEach [e,f] X.env) = [(false,eval e X.env),(false,eval f X.env)]
noncomputable def IsD (H : Hp) (a : Addr) : Prop:=(∃ kvs,Rd H a (.dK kvs))∨∃ kvs,Rd H a (.dT kvs)
theorem isD_at {X : Cx} {pins : List (Addr × Obj)} {σ : St} {H : Hp} {s : Shared} {a : Addr} (I : Inv X pins σ H s) (d : IsD H a) :
    s.TypeIs (.ref a) "dict"∧(∀ b,Value.ref a = .ref b→∃ ob,s.heap.get? b = some ob∧ob.dict = none)∧(a == sysModules) = false:=by
  rcases d with ⟨kvs,e⟩ | ⟨kvs,e⟩
  · obtain ⟨_,hd,vs,_,dd⟩:=dk_rd I.hok e
    refine ⟨dd.typeIs,fun b q=>?_,hd⟩
    cases q
    obtain ⟨ob,_,_,h1,h2,_⟩:=dd
    exact ⟨ob,h1,h2.2.1⟩
  · obtain ⟨_,hd,xs,_,dd⟩:=dt_rd I.hok e
    refine ⟨dd.typeIs,fun b q=>?_,hd⟩
    cases q
    obtain ⟨ob,_,_,h1,h2,_⟩:=dd
    exact ⟨ob,h1,h2.2.1⟩
section
variable {X : Cx} {pins : List (Addr × Obj)} {σ : St} {H : Hp} {s : Shared} {a : Addr} {y d : V} {u r : Value} {o : Option V} {A : Around} {E : Value→Shared→Prop}
theorem d_get1 {Q : Value→Shared→Prop} (hu : A.units + 1 < cLine) (I : Inv X pins σ H s) (g : DGet H a y o) (ry : RelV y u) (h : ∀ w' s',Inv X pins σ H s'→RelV (o.getD .non) w'→Q w' s') :
    wpAny (model X.prog X.w) A (call (.builtin "dict.get") [.ref a,u]) Q E s:=by
  rcases g with ⟨kvs,k,e,ey,l⟩ | ⟨kvs,k,b,e,ey,eb,l⟩
  · subst ey
    obtain ⟨z,hd,vs,rel,dd⟩:=dk_rd I.hok e
    refine call_meetsIn PySem.F.slot_dict_get dd.typeIs PySem.F.entry_dict_get (PySem.F.args_dict_get_2 _ _) (meets_dict_get (mixKind X.prog X.w) a (kV_is ry) hd) ⟨_,dd.mapOf,h _ _ (I.tok _) ?_⟩
    rw [l]
    exact (rel.val k).getD rfl
  · subst ey
    cases (show u = Value.ref b from ry)
    obtain ⟨z,hd,xs,rel,dd⟩:=dt_rd I.hok e
    refine call_meetsIn PySem.F.slot_dict_get dd.typeIs PySem.F.entry_dict_get (PySem.F.args_dict_get_2 _ _) (meetsH_dict_get (tupleKind (mixKind X.prog X.w)) a b hd) ⟨tupleKind_room_in1 hu,k,xs,key_of I.hok eb,dd,h _ _ (I.tok _) ?_⟩
    rw [l]
    exact (rel.val k).getD rfl
end
noncomputable def tDGet1 (td ty : TE) : TE:=fun σ H Q=>td σ H fun x H1=>∃ a,x = .ref a∧IsD H1 a∧ty σ H1 fun y H2=>∃ o,DGet H2 a y o∧Q (o.getD .non) H2
section
variable {X : Cx} {o e f : Expr} {apos cpos : Pos} {td ty tx : TE}
theorem pe_dget1 (hu : X.A.units + 1 < cLine) (ho : PE X o td) (he : PE X e ty) (m : M1 X o "get" apos e cpos) : PE X (.Call (.Attribute o "get" apos) [e] [] cpos) (tDGet1 td ty):=by
  intro pins s σ H Q I h
  refine wpAny_Call_method m.base m.few m.line PySem.F.plainAttrs_dict PySem.F.slot_dict_get PySem.F.type_dict_get (thn (ho pins s σ H _ I h) fun u s1 ⟨x,H1,I1,rx,a,ex,d,q1⟩=>?_)
  subst ex
  obtain rfl : u = Value.ref a:=rx
  obtain ⟨t1,t2,_⟩:=isD_at I1 d
  refine ⟨t1,t2,?_⟩
  rw [m.trees]
  refine Calls.callWith_builtin rfl (Calls.evalArgs_plain (Calls.spliced_cons (thn (he pins s1 σ H1 _ I1 q1) fun iv s2 ⟨y,H2,I2,ry,ov,g,q2⟩=>Calls.spliced_nil ?_)))
  exact d_get1 hu I2 g ry fun w' s3 I3 rw'=>⟨_,H2,I3,rw',q2⟩
end
section
variable {X : Cx} {pins : List (Addr × Obj)} {σ : St} {H : Hp} {s : Shared} {a : Addr} {kvs : List (Key × V)} {A : Around} {E : Value→Shared→Prop}
end
section
variable {X : Cx} {pins : List (Addr × Obj)} {σ : St} {H : Hp} {s : Shared} {a : Addr} {y : V} {u : Value} {A : Around} {E : Value→Shared→Prop}
end
end L2
end
section
set_option linter.all false
namespace M
open PySem (Str Operator CmpOp)
inductive D where
  | non | bl (b : Bool) | int (i : Int) | str (s : Str) | tup (ds : List D) | lst (ds : List D) | loc (l : Nat)
  deriving Inhabited
inductive Cell where
  | lst (w : Bool) (ds : List D)
  /-- a dict,its keys ints and texts -/
  | dic (kvs : List (D × D))
  deriving Inhabited
noncomputable abbrev Store:=List Cell
noncomputable abbrev Sl:=List (Option D)
noncomputable def lim : Nat:=16777216
inductive Ty where
  | non | bl | int | str | tup | lst
  deriving DecidableEq
noncomputable def Ty.name : Ty→String
  | .non=>"NoneType"
  | .bl=>"bool"
  | .int=>"int"
  | .str=>"str"
  | .tup=>"tuple"
  | .lst=>"list"
inductive B where
  | len | min | max | tuple | list | all | sorted | int | str
inductive Mt where
  | append | find | join | split | extend | index
inductive T where
  | var (i : Nat)
  | tup (is : List Nat)
noncomputable def T.slots : T→List Nat
  | .var i=>[i]
  | .tup is=>is
inductive E where
  | var (i : Nat)
  | lit (d : D)
  | glo (x : Str) (d : D)
  | bin (op : Operator) (a b : E)
  | neg (a : E)
  | not (a : E)
  | cmp (op : CmpOp) (a b : E)
  | cmp2 (op op' : CmpOp) (a b c : E)
  | and (a b : E)
  | or (a b : E)
  | ite (c a b : E)
  | tup (es : List E)
  | lst (es : List E)
  | idx (a b : E)
  | sli (a : E) (lo hi : Option E)
  | call (f : Nat) (es : List E)
  | bcall (f : B) (es : List E)
  | isi (a : E) (ts : List Ty) (many : Bool)
  | meth (a : E) (m : Mt) (es : List E)
  /-- what a part made is dropped where nothing else holds it; a list that it tells is a value from then on -/
  | gc (a : E)
  | rng1 (a : E)
  | rng2 (a b : E)
  | rng3 (a b c : E)
  | zip (a b : E)
  /-- a written dict: key,value,key,value .. -/
  | dic (es : List E)
  | didx (a b : E)
  | din (neg : Bool) (a b : E)
  | dgt (a b : E)
  | fmt (a : E)
  | fstr (es : List E)
  /-- of a dict of the file's top: its keys,its values -/
  | gidx (x : Str) (ks : List Str) (ds : List D) (b : E)
  | gin (neg : Bool) (x : Str) (ks : List Str) (b : E)
  | comp (t : T) (it : E) (test : Option E) (elt : E) (src : List (Option Nat))
inductive S where
  | set (t : T) (e : E)
  | setIx (a i e : E)
  | dset (a i e : E)
  | rais
  | expr (e : E)
  | ret (e : E)
  | retN
  | ite (c : E) (a b : List S)
  | forr (t : T) (it : E) (body : List S)
  | whil (c : E) (body : List S)
  | aug (i : Nat) (op : Operator) (e : E)
  | brk | cnt | pass
structure Fn where
  np : Nat
  nl : Nat
  body : List S
mutual
noncomputable def eqT : D→D→Bool
  | .non,.non=>true
  | .bl a,.bl b=>a == b
  | .bl a,.int j=>(if a then 1 else 0) == j
  | .int i,.bl b=>i == (if b then 1 else 0)
  | .int i,.int j=>i == j
  | .str a,.str b=>a == b
  | .tup a,.tup b=>eqTs a b
  | _,_=>false
noncomputable def eqTs : List D→List D→Bool
  | [],[]=>true
  | a::as,b::bs=>eqT a b && eqTs as bs
  | _,_=>false
end
mutual
/-- no place of the store within,at most n deep -/
noncomputable def flat : Nat→D→Bool
  | _,.loc _=>false
  | _,.lst _=>false
  | 0,.tup _=>false
  | n + 1,.tup ds=>flats n ds
  | _,_=>true
noncomputable def flats : Nat→List D→Bool
  | _,[]=>true
  | n,d::ds=>flat n d && flats n ds
end
noncomputable def mulOk (i j : Int) : Bool:=(decide (-(2 ^ 64) < i) && decide (i < 2 ^ 64)) || (decide (-(2 ^ 64) < j) && decide (j < 2 ^ 64))
noncomputable def listAt (st : Store) (l : Nat) : Option (List D):=match st[l]? with | some (.lst _ ds)=>some ds | _=>none
noncomputable def wlistAt (st : Store) (l : Nat) : Option (List D):=match st[l]? with | some (.lst true ds)=>some ds | _=>none
noncomputable def seqAt (st : Store) : D→Option (List D)
  | .loc l=>listAt st l
  | .lst ds=>some ds
  | _=>none
mutual
/-- no place of the store within -/
noncomputable def noLoc : D→Bool
  | .loc _=>false
  | .tup ds=>noLocs ds
  | .lst ds=>noLocs ds
  | _=>true
noncomputable def noLocs : List D→Bool
  | []=>true
  | d::ds=>noLoc d && noLocs ds
end
open Classical in
noncomputable def gcD (st : Store) (p : D × Store) : D × Store :=
  if p.2.take st.length = st then
    if noLoc p.1 then (p.1,st) else match p.1 with
      | .loc l=>if st.length ≤ l then (match p.2[l]? with
        | some (.lst true ds)=>if noLocs ds then (.lst ds,st) else p
        | _=>p) else p
      | _=>p
  else p
noncomputable def dicAt (st : Store) (l : Nat) : Option (List (D × D)):=match st[l]? with | some (.dic kvs)=>some kvs | _=>none
noncomputable def isKey : D→Bool
  | .int _=>true
  | .str _=>true
  | _=>false
noncomputable def dget (kvs : List (D × D)) (k : D) : Option D:=(kvs.find? fun p=>eqT p.1 k).map (·.2)
noncomputable def dput (kvs : List (D × D)) (k v : D) : List (D × D):=if kvs.any fun p=>eqT p.1 k then kvs.map (fun p=>if eqT p.1 k then (p.1,v) else p) else kvs++[(k,v)]
noncomputable def pairUp : List D→Option (List (D × D))
  | []=>some []
  | k::v::r=>if isKey k then (pairUp r).map ((k,v)::·) else none
  | _=>none
noncomputable def dall (kvs : List (D × D)) : List (D × D):=kvs.foldl (fun acc p=>dput acc p.1 p.2) []
noncomputable def alloc (st : Store) (c : Cell) : D × Store:=(.loc st.length,st++[c])
noncomputable def binop (st : Store) : Operator→D→D→Option (D × Store)
  | .Add,.int i,.int j=>some (.int (i + j),st)
  | .Add,.tup a,.tup b=>if a.isEmpty || decide (lim < a.length + b.length) then none else some (.tup (a++b),st)
  | .Add,.str a,.str b=>if lim < a.length + b.length then none else some (.str (a++b),st)
  | .Add,a,b=>(seqAt st a).bind fun x=>(seqAt st b).bind fun y=>if lim < x.length + y.length then none else some (alloc st (.lst true (x++y)))
  | .Sub,.int i,.int j=>some (.int (i - j),st)
  | .Mult,.int i,.int j=>if mulOk i j then some (.int (i * j),st) else none
  | .Mult,.tup a,.int k=>if decide (k < -(2 ^ 62)) || decide (2 ^ 62 ≤ k) || decide (lim < a.length * k.toNat) then none else some (.tup (List.replicate k.toNat a).flatten,st)
  | .Mult,.loc l,.int k=>(wlistAt st l).bind fun a=>if decide (k < -(2 ^ 62)) || decide (2 ^ 62 ≤ k) || decide (lim < a.length * k.toNat) then none else some (alloc st (.lst true (List.replicate k.toNat a).flatten))
  | .FloorDiv,.int i,.int j=>if 0 < j∧j < 2 ^ 64 then some (.int (i / j),st) else none
  | .Mod,.int i,.int j=>if 0 < j then some (.int (i % j),st) else none
  | .Pow,.int i,.int j=>if 0 ≤ j∧j ≤ 1000∧i.natAbs < 2 ^ 64 then some (.int (i ^ j.toNat),st) else none
  | _,_,_=>none
noncomputable def ixN (n : Nat) (i : Int) : Option Nat:=if 0 ≤ i then (if i < n then some i.toNat else none) else if -(n : Int) ≤ i then some (i + n).toNat else none
noncomputable def atI {α : Type} (xs : List α) (i : Int) : Option α:=(ixN xs.length i).bind fun j=>xs[j]?
noncomputable def idxD (st : Store) : D→D→Option D
  | .tup ds,.int i=>atI ds i
  | .str z,.int i=>if lim < z.length then none else (atI z.cps.toList i).map fun c=>.str ⟨#[c]⟩
  | d,.int i=>(seqAt st d).bind fun ds=>atI ds i
  | _,_=>none
noncomputable def cutIx (n d : Nat) : Option Int→Nat
  | none=>d
  | some v=>if v < 0 then (v + (n : Int)).toNat else min v.toNat n
noncomputable def cut {α : Type} (xs : List α) (lo hi : Option Int) : List α:=(xs.drop (cutIx xs.length 0 lo)).take (cutIx xs.length xs.length hi - cutIx xs.length 0 lo)
noncomputable def oneOf (z : Str) : Option Nat:=match z.cps.toList with
  | [c]=>some c
  | _=>none
noncomputable def sliD (st : Store) : D→Option Int→Option Int→Option (D × Store)
  | .tup ds,lo,hi=>some (.tup (cut ds lo hi),st)
  | .str z,lo,hi=>if lim < z.length then none else some (.str ⟨(cut z.cps.toList lo hi).toArray⟩,st)
  | d,lo,hi=>(seqAt st d).map fun ds=>alloc st (.lst true (cut ds lo hi))
noncomputable def inD (st : Store) (x : D) : D→Option Bool
  | .tup ds=>if flat 9 x && flats 9 ds then some (ds.any fun y=>eqT y x) else none
  | .str z=>match x with
    | .str i=>(oneOf i).map fun c=>decide (c ∈ z.cps.toList)
    | _=>none
  | d=>(seqAt st d).bind fun ds=>if flat 9 x && flats 9 ds then some (ds.any fun y=>eqT y x) else none
noncomputable def eqD (st : Store) (x y : D) : Option Bool:=match seqAt st x,seqAt st y with
  | some a,some b=>if flats 9 a && flats 9 b then some (eqTs a b) else none
  | _,_=>if flat 9 x && flat 9 y then some (eqT x y) else none
noncomputable def neD (st : Store) (a b : D) : Option Bool:=(eqD st a b).map (!·)
noncomputable def isNon : D→Bool
  | .non=>true
  | _=>false
noncomputable def cmpD (st : Store) : CmpOp→D→D→Option Bool
  | .Lt,.int i,.int j=>some (decide (i < j))
  | .LtE,.int i,.int j=>some (decide (i ≤ j))
  | .Gt,.int i,.int j=>some (decide (j < i))
  | .GtE,.int i,.int j=>some (decide (j ≤ i))
  | .Eq,x,y=>eqD st x y
  | .NotEq,x,y=>neD st x y
  | .Is,x,.non=>some (isNon x)
  | .IsNot,x,.non=>some (!isNon x)
  | .In,x,y=>inD st x y
  | .NotIn,x,y=>(inD st x y).map (!·)
  | _,_,_=>none
noncomputable def tyName (st : Store) : D→Option Ty
  | .non=>some .non
  | .bl _=>some .bl
  | .int _=>some .int
  | .str _=>some .str
  | .tup _=>some .tup
  | d=>(seqAt st d).map fun _=>.lst
noncomputable def tyIs (t n : Ty) : Bool:=t == n || (t == .int && n == .bl)
noncomputable def truth (st : Store) : D→Option Bool
  | .non=>some false
  | .bl b=>some b
  | .int i=>some (i != 0)
  | .tup ds=>some (!ds.isEmpty)
  | .str z=>if lim < z.length then none else some ((z.length : Int) != 0)
  | d=>(seqAt st d).map fun ds=>!ds.isEmpty
noncomputable def insInt (x : Int) : List Int→List Int
  | []=>[x]
  | y::r=>if x ≤ y then x::y::r else y::insInt x r
noncomputable def sortInt : List Int→List Int
  | []=>[]
  | x::r=>insInt x (sortInt r)
noncomputable def asInts : List D→Option (List Int)
  | []=>some []
  | .int i::r=>(asInts r).map (i::·)
  | _=>none
noncomputable def asBools : List D→Option (List Bool)
  | []=>some []
  | .bl i::r=>(asBools r).map (i::·)
  | _=>none
noncomputable def bLen (st : Store) : List D→Option (D × Store)
  | [.tup ds]=>some (.int ds.length,st)
  | [.str z]=>if lim < z.length then none else some (.int z.length,st)
  | [d]=>(seqAt st d).map fun ds=>(.int ds.length,st)
  | _=>none
noncomputable def augD (st : Store) : Operator→D→D→Option D
  | .Add,.int i,.int j=>some (.int (i + j))
  | .Sub,.int i,.int j=>some (.int (i - j))
  | .Mult,.int i,.int j=>if mulOk i j then some (.int (i * j)) else none
  | .Add,.str a,.str b=>if lim < a.length + b.length then none else some (.str (a++b))
  | _,_,_=>none
noncomputable def bMin (st : Store) : List D→Option (D × Store)
  | [.int i,.int j]=>some (.int (if j < i then j else i),st)
  | _=>none
noncomputable def bMax (st : Store) : List D→Option (D × Store)
  | [.int i,.int j]=>some (.int (if j > i then j else i),st)
  | _=>none
noncomputable def bTuple (st : Store) : List D→Option (D × Store)
  | [.tup ds]=>some (.tup ds,st)
  | [d]=>(seqAt st d).map fun ds=>(.tup ds,st)
  | _=>none
noncomputable def bList (st : Store) : List D→Option (D × Store)
  | [.tup ds]=>some (alloc st (.lst true ds))
  | [d]=>(seqAt st d).map fun ds=>alloc st (.lst true ds)
  | _=>none
noncomputable def bAll (st : Store) : List D→Option (D × Store)
  | [d]=>(seqAt st d).bind fun ds=>(asBools ds).map fun bs=>(.bl (bs.all id),st)
  | _=>none
noncomputable def bSorted (st : Store) : List D→Option (D × Store)
  | [d]=>(seqAt st d).bind fun ds=>(if 64 ≤ ds.length then none else asInts ds).map fun ns=>alloc st (.lst true ((sortInt ns).map .int))
  | _=>none
noncomputable def isFig (c : Nat) : Bool:=decide (48 ≤ c) && decide (c ≤ 57)
noncomputable def figVal (cs : List Nat) : Nat:=cs.foldl (fun acc c=>acc * 10 + (c - 48)) 0
noncomputable def bInt (st : Store) : List D→Option (D × Store)
  | [.str z]=>if !z.cps.toList.isEmpty && z.cps.toList.all isFig && decide (z.length ≤ 640) then some (.int (figVal z.cps.toList : Nat),st) else none
  | [.int i]=>some (.int i,st)
  | _=>none
noncomputable def bStr (st : Store) : List D→Option (D × Store)
  | [.int i]=>if i.natAbs.log2 < 1920 then some (.str (Str.ofString (toString i)),st) else none
  | [.str z]=>some (.str z,st)
  | _=>none
noncomputable def splitC (c : Nat) : List Nat→List (List Nat)
  | []=>[[]]
  | x::r=>if x = c then []::splitC c r else match splitC c r with
    | []=>[[x]]
    | p::ps=>(x::p)::ps
noncomputable def mSplit (st : Store) : D→List D→Option (D × Store)
  | .str z,[.str y]=>(oneOf y).bind fun c=>if z.length < 1000000 then some (alloc st (.lst true ((splitC c z.cps.toList).map fun p=>.str ⟨p.toArray⟩))) else none
  | _,_=>none
noncomputable def fmtD : D→Option D
  | .int i=>if i.natAbs.log2 < 1920 then some (.str (Str.ofString (toString i))) else none
  | .str z=>if z.length ≤ lim then some (.str z) else none
  | _=>none
noncomputable def catD : List D→Str→Option Str
  | [],acc=>some acc
  | .str z::r,acc=>if (acc++z).length ≤ lim then catD r (acc++z) else none
  | _,_=>none
noncomputable def asStrs : List D→Option (List Str)
  | []=>some []
  | .str i::r=>(asStrs r).map (i::·)
  | _=>none
noncomputable def findC (cs : List Nat) (c : Nat) : Int:=match cs.findIdx? (· == c) with
  | some i=>(i : Int)
  | none=>-1
noncomputable def mFind (st : Store) : D→List D→Option (D × Store)
  | .str z,[.str y]=>(oneOf y).map fun c=>(.int (findC z.cps.toList c),st)
  | _,_=>none
noncomputable def mJoin (st : Store) : D→List D→Option (D × Store)
  | .str z,[d]=>(seqAt st d).bind fun ds=>(asStrs ds).bind fun ts=>if (ts.map (·.length)).sum + ts.length * z.length ≤ lim then some (.str (Str.join z ts),st) else none
  | _,_=>none
noncomputable def bfun (st : Store) : B→List D→Option (D × Store)
  | .len=>bLen st
  | .min=>bMin st
  | .max=>bMax st
  | .tuple=>bTuple st
  | .list=>bList st
  | .all=>bAll st
  | .sorted=>bSorted st
  | .int=>bInt st
  | .str=>bStr st
noncomputable def mAppend (st : Store) : D→List D→Option (D × Store)
  | .loc l,[d]=>(wlistAt st l).bind fun ds=>if ds.length < lim then some (.non,st.set l (.lst true (ds++[d]))) else none
  | _,_=>none
noncomputable def mExtend (st : Store) : D→List D→Option (D × Store)
  | .loc l,[d]=>(wlistAt st l).bind fun ds=>(match d with | .tup es=>some es | d=>seqAt st d).bind fun es=>if ds.length + es.length ≤ lim then some (.non,st.set l (.lst true (ds++es))) else none
  | _,_=>none
noncomputable def mIndex (st : Store) : D→List D→Option (D × Store)
  | d,[x]=>(seqAt st d).bind fun ds=>if flat 9 x && flats 9 ds then (ds.findIdx? fun y=>eqT y x).map fun (j : Nat)=>(.int (j : Int),st) else none
  | _,_=>none
noncomputable def mfun (st : Store) : Mt→D→List D→Option (D × Store)
  | .append=>mAppend st
  | .find=>mFind st
  | .join=>mJoin st
  | .split=>mSplit st
  | .extend=>mExtend st
  | .index=>mIndex st
noncomputable def Mt.ofList : Mt→Bool
  | .append=>true
  | .extend=>true
  | .index=>true
  | _=>false
noncomputable def mty (st : Store) (m : Mt) : D→Bool
  | .str _=>!m.ofList
  | d=>m.ofList && (seqAt st d).isSome
noncomputable def setIxD (st : Store) : D→D→D→Option Store
  | .loc l,.int i,d=>(wlistAt st l).bind fun ds=>(ixN ds.length i).map fun j=>st.set l (.lst true (ds.set j d))
  | _,_,_=>none
inductive Out where
  | nx (τ : Sl)
  | rt (d : D)
  | bk (τ : Sl)
  | ct (τ : Sl)
structure R where
  ev : Sl→Store→E→Option (D × Store)
  tst : Sl→Store→E→Option (Bool × Store)
  ex : Sl→Store→List S→Option (Out × Store)
  call : Nat→List D→Store→Option (D × Store)
noncomputable def evs (f : Store→E→Option (D × Store)) : List E→Store→Option (List D × Store)
  | [],st=>some ([],st)
  | e::es,st=>(f st e).bind fun p=>(evs f es p.2).bind fun q=>some (p.1::q.1,q.2)
noncomputable def setIs : List Nat→List D→Sl→Option Sl
  | [],[],τ=>some τ
  | i::is,d::ds,τ=>if i < τ.length then setIs is ds (τ.set i (some d)) else none
  | _,_,_=>none
noncomputable def setT : T→D→Sl→Option Sl
  | .var i,d,τ=>if i < τ.length then some (τ.set i (some d)) else none
  | .tup is,.tup ds,τ=>setIs is ds τ
  | _,_,_=>none
inductive Src where
  | tup (ds : List D)
  | lst (d : D)
  | rng (lo : Int) (n : Nat)
  | rgs (lo c : Int) (n : Nat)
  | zip (a b : D)
  | str (z : Str)
noncomputable def rowAt (st : Store) : D→Option (List D)
  | .tup ds=>some ds
  | d=>seqAt st d
noncomputable def pairAt (xs ys : List D) (i : Nat) : Option D:=match xs[i]?,ys[i]? with
  | some x,some y=>some (.tup [x,y])
  | _,_=>none
noncomputable def Src.at (st : Store) (i : Nat) : Src→Option (Option D)
  | .tup ds=>some ds[i]?
  | .lst d=>(seqAt st d).map fun ds=>ds[i]?
  | .rng lo n=>some (if i < n then some (.int (lo + i)) else none)
  | .rgs lo c n=>some (if i < n then some (.int (lo + i * c)) else none)
  | .zip a b=>(rowAt st a).bind fun xs=>(rowAt st b).map fun ys=>pairAt xs ys i
  | .str z=>some ((z.cps.toList.map fun c=>D.str ⟨#[c]⟩)[i]?)
noncomputable def Src.size (st : Store) : Src→Nat
  | .tup ds=>ds.length
  | .lst d=>((seqAt st d).getD []).length
  | .rng _ n=>n
  | .rgs _ _ n=>n
  | .str z=>z.cps.toList.length
  | .zip a b=>min ((rowAt st a).getD []).length ((rowAt st b).getD []).length
noncomputable def big (i : Int) : Bool:=decide (i < -(2 ^ 62)) || decide (2 ^ 62 ≤ i)
noncomputable def src (r : R) (τ : Sl) (st : Store) : E→Option (Src × Store)
  | .rng1 a=>(r.ev τ st a).bind fun p=>match p.1 with
    | .int n=>if big n then none else some (.rng 0 n.toNat,p.2)
    | _=>none
  | .rng2 a b=>(r.ev τ st a).bind fun p=>(r.ev τ p.2 b).bind fun q=>match p.1,q.1 with
    | .int i,.int j=>if big i || big j then none else some (.rng i (j - i).toNat,q.2)
    | _,_=>none
  | .rng3 a b c=>(r.ev τ st a).bind fun p=>(r.ev τ p.2 b).bind fun q=>(r.ev τ q.2 c).bind fun u=>match p.1,q.1,u.1 with
    | .int i,.int j,.int k=>if big i || big j || !(decide (0 < k) && decide (k < 1000)) then none else some (.rgs i k (if i < j then (j - i - 1) / k + 1 else 0).toNat,u.2)
    | _,_,_=>none
  | .zip a b=>(r.ev τ st a).bind fun p=>(r.ev τ p.2 b).bind fun q=>(rowAt q.2 p.1).bind fun _=>(rowAt q.2 q.1).map fun _=>(.zip p.1 q.1,q.2)
  | e=>(r.ev τ st e).bind fun p=>match p.1 with
    | .tup ds=>some (.tup ds,p.2)
    | .str z=>if z.cps.all (· < 128) then some (.str z,p.2) else none
    | d=>(seqAt p.2 d).map fun _=>(.lst d,p.2)
noncomputable def loop (it : Src) (f : Sl→Store→D→Option (Out × Store)) : Nat→Nat→Sl→Store→Option (Out × Store)
  | 0,_,_,_=>none
  | k + 1,i,τ,st=>(it.at st i).bind fun o=>match o with
    | none=>some (.nx τ,st)
    | some d=>(f τ st d).bind fun p=>match p.1 with
      | .nx τ'=>loop it f k (i + 1) τ' p.2
      | .ct τ'=>loop it f k (i + 1) τ' p.2
      | .bk τ'=>some (.nx τ',p.2)
      | .rt v=>some (.rt v,p.2)
noncomputable def turnC (r : R) (t : T) (test : Option E) (elt : E) (τ : Sl) (st : Store) (d : D) : Option (Option D × Sl × Store) :=
  (setT t d τ).bind fun τ'=>match test with
    | none=>(r.ev τ' st elt).map fun p=>(some p.1,τ',p.2)
    | some c=>(r.tst τ' st c).bind fun b=>if b.1 then (r.ev τ' b.2 elt).map fun p=>(some p.1,τ',p.2) else some (none,τ',b.2)
noncomputable def loopC (it : Src) (f : Sl→Store→D→Option (Option D × Sl × Store)) : Nat→Nat→List D→Sl→Store→Option (List D × Store)
  | 0,_,_,_,_=>none
  | k + 1,i,acc,τ,st=>(it.at st i).bind fun o=>match o with
    | none=>if lim < acc.length then none else some (acc,st)
    | some d=>if lim ≤ acc.length then none else (f τ st d).bind fun p=>loopC it f k (i + 1) (match p.1 with | some x=>acc++[x] | none=>acc) p.2.1 p.2.2
noncomputable def inner (src : List (Option Nat)) (τ : Sl) : Sl:=src.map fun o=>o.bind fun i=>(τ[i]?).bind id
noncomputable def part (r : R) (τ : Sl) (st : Store) : Option E→Option (Option Int × Store)
  | none=>some (none,st)
  | some e=>(r.ev τ st e).bind fun p=>match p.1 with
    | .int i=>some (some i,p.2)
    | _=>none
noncomputable def loopW (f : Sl→Store→Option (Bool × Store)) (g : Sl→Store→Option (Out × Store)) : Nat→Sl→Store→Option (Out × Store)
  | 0,_,_=>none
  | k + 1,τ,st=>(f τ st).bind fun b=>if b.1 then (g τ b.2).bind fun p=>match p.1 with
      | .nx τ'=>loopW f g k τ' p.2
      | .ct τ'=>loopW f g k τ' p.2
      | .bk τ'=>some (.nx τ',p.2)
      | .rt v=>some (.rt v,p.2)
    else some (.nx τ,b.2)
noncomputable def dinR (r : R) (τ : Sl) (st : Store) (neg : Bool) (a b : E) : Option (D × Store) :=
  (r.ev τ st a).bind fun p=>(r.ev τ p.2 b).bind fun q=>match q.1 with
    | .loc l=>(dicAt q.2 l).bind fun kvs=>if isKey p.1 then some (.bl ((dget kvs p.1).isSome != neg),q.2) else none
    | _=>none
noncomputable def ginR (r : R) (τ : Sl) (st : Store) (neg : Bool) (ks : List Str) (b : E) : Option (D × Store) :=
  (r.ev τ st b).bind fun p=>match p.1 with
    | .str z=>some (.bl (ks.contains z != neg),p.2)
    | _=>none
noncomputable def stepEv (r : R) (τ : Sl) (st : Store) : E→Option (D × Store)
  | .var i=>match τ[i]? with
    | some (some d)=>some (d,st)
    | _=>none
  | .lit d=>some (d,st)
  | .glo _ d=>some (d,st)
  | .bin op a b=>(r.ev τ st a).bind fun p=>(r.ev τ p.2 b).bind fun q=>binop q.2 op p.1 q.1
  | .neg a=>(r.ev τ st a).bind fun p=>match p.1 with
    | .int i=>some (.int (-i),p.2)
    | _=>none
  | .not a=>(r.ev τ st a).bind fun p=>match p.1 with
    | .bl b=>some (.bl (!b),p.2)
    | _=>none
  | .cmp op a b=>(r.ev τ st a).bind fun p=>(r.ev τ p.2 b).bind fun q=>(cmpD q.2 op p.1 q.1).map fun k=>(.bl k,q.2)
  | .cmp2 op op' a b c=>(r.ev τ st a).bind fun p=>(r.ev τ p.2 b).bind fun q=>(cmpD q.2 op p.1 q.1).bind fun k =>
      if k then (r.ev τ q.2 c).bind fun u=>(cmpD u.2 op' q.1 u.1).map fun k'=>(.bl k',u.2) else some (.bl false,q.2)
  | .and a b=>(r.ev τ st a).bind fun p=>match p.1 with
    | .bl true=>r.ev τ p.2 b
    | .bl false=>some (.bl false,p.2)
    | _=>none
  | .or a b=>(r.ev τ st a).bind fun p=>match p.1 with
    | .bl false=>r.ev τ p.2 b
    | .bl true=>some (.bl true,p.2)
    | _=>none
  | .ite c a b=>(r.tst τ st c).bind fun p=>if p.1 then r.ev τ p.2 a else r.ev τ p.2 b
  | .tup es=>(evs (r.ev τ) es st).bind fun p=>if lim < p.1.length then none else some (.tup p.1,p.2)
  | .lst es=>(evs (r.ev τ) es st).bind fun p=>if lim < p.1.length then none else some (alloc p.2 (.lst true p.1))
  | .idx a b=>(r.ev τ st a).bind fun p=>(r.ev τ p.2 b).bind fun q=>(idxD q.2 p.1 q.1).map fun d=>(d,q.2)
  | .sli a lo hi=>(r.ev τ st a).bind fun p=>(part r τ p.2 lo).bind fun l=>(part r τ l.2 hi).bind fun h=>sliD h.2 p.1 l.1 h.1
  | .call f es=>(evs (r.ev τ) es st).bind fun p=>r.call f p.1 p.2
  | .bcall f es=>(evs (r.ev τ) es st).bind fun p=>bfun p.2 f p.1
  | .isi a ts _=>(r.ev τ st a).bind fun p=>(tyName p.2 p.1).map fun n=>(.bl (ts.any fun t=>tyIs t n),p.2)
  | .meth a m es=>(r.ev τ st a).bind fun p=>if mty p.2 m p.1 then (evs (r.ev τ) es p.2).bind fun q=>mfun q.2 m p.1 q.1 else none
  | .gc a=>(r.ev τ st a).map fun p=>gcD st p
  | .rng1 _=>none
  | .rng2 _ _=>none
  | .rng3 _ _ _=>none
  | .zip _ _=>none
  | .dic es=>(evs (r.ev τ) es (st++[.dic []])).bind fun p=>match dicAt p.2 st.length with
    | some []=>(pairUp p.1).bind fun kvs=>if kvs.length ≤ 15 then some (.loc st.length,p.2.set st.length (.dic (dall kvs))) else none
    | _=>none
  | .didx a b=>(r.ev τ st a).bind fun p=>(r.ev τ p.2 b).bind fun q=>match p.1 with
    | .loc l=>(dicAt q.2 l).bind fun kvs=>if isKey q.1 then (dget kvs q.1).map fun d=>(d,q.2) else none
    | _=>none
  | .din neg a b=>dinR r τ st neg a b
  | .dgt a b=>(r.ev τ st a).bind fun p=>match p.1 with
    | .loc l=>(dicAt p.2 l).bind fun _=>(r.ev τ p.2 b).bind fun q=>(dicAt q.2 l).bind fun kvs=>if isKey q.1 then some ((dget kvs q.1).getD .non,q.2) else none
    | _=>none
  | .fmt a=>(r.ev τ st a).bind fun p=>(fmtD p.1).map fun d=>(d,p.2)
  | .fstr es=>(evs (r.ev τ) es st).bind fun p=>(catD p.1 Str.empty).map fun z=>(.str z,p.2)
  | .gidx _ ks ds b=>(r.ev τ st b).bind fun p=>match p.1 with
    | .str z=>((ks.zip ds).find? fun q=>q.1 == z).map fun q=>(q.2,p.2)
    | _=>none
  | .gin neg _ ks b=>ginR r τ st neg ks b
  | .comp t it test elt sr=>(src r τ st it).bind fun p =>
      (loopC p.1 (turnC r t test elt) (p.1.size p.2 + 1) 0 [] (inner sr τ) p.2).map fun q=>alloc q.2 (.lst true q.1)
noncomputable def stepTst (r : R) (τ : Sl) (st : Store) : E→Option (Bool × Store)
  | .not a=>(r.tst τ st a).map fun p=>(!p.1,p.2)
  | .and a b=>(r.tst τ st a).bind fun p=>if p.1 then r.tst τ p.2 b else some (false,p.2)
  | .or a b=>(r.tst τ st a).bind fun p=>if p.1 then some (true,p.2) else r.tst τ p.2 b
  | .ite _ _ _=>none
  | .din neg a b=>(dinR r τ st neg a b).bind fun p=>(truth p.2 p.1).map fun k=>(k,p.2)
  | .gin neg _ ks b=>(ginR r τ st neg ks b).bind fun p=>(truth p.2 p.1).map fun k=>(k,p.2)
  | .cmp op a b=>(r.ev τ st a).bind fun p=>(r.ev τ p.2 b).bind fun q=>(cmpD q.2 op p.1 q.1).map fun k=>(k,q.2)
  | .cmp2 op op' a b c=>(r.ev τ st a).bind fun p=>(r.ev τ p.2 b).bind fun q=>(cmpD q.2 op p.1 q.1).bind fun k =>
      if k then (r.ev τ q.2 c).bind fun u=>(cmpD u.2 op' q.1 u.1).map fun k'=>(k',u.2) else some (false,q.2)
  | e=>(r.ev τ st e).bind fun p=>(truth p.2 p.1).map fun k=>(k,p.2)
noncomputable def stepEx (r : R) (τ : Sl) (st : Store) : S→Option (Out × Store)
  | .set t e=>(r.ev τ st e).bind fun p=>(setT t p.1 τ).map fun τ'=>(.nx τ',p.2)
  | .setIx a i e=>(r.ev τ st e).bind fun p=>(r.ev τ p.2 a).bind fun q=>(r.ev τ q.2 i).bind fun u=>(setIxD u.2 q.1 u.1 p.1).map fun st'=>(.nx τ,st')
  | .dset a i e=>(r.ev τ st e).bind fun p=>(r.ev τ p.2 a).bind fun q=>(r.ev τ q.2 i).bind fun u=>match q.1 with
    | .loc l=>(dicAt u.2 l).bind fun kvs=>if isKey u.1 && decide (kvs.length < lim) then some (.nx τ,u.2.set l (.dic (dput kvs u.1 p.1))) else none
    | _=>none
  | .rais=>none
  | .expr e=>(r.ev τ st e).map fun p=>(.nx τ,p.2)
  | .ret e=>(r.ev τ st e).map fun p=>(.rt p.1,p.2)
  | .retN=>some (.rt .non,st)
  | .ite c a b=>(r.tst τ st c).bind fun p=>if p.1 then r.ex τ p.2 a else r.ex τ p.2 b
  | .forr t it body=>(src r τ st it).bind fun p =>
      loop p.1 (fun τ st d=>(setT t d τ).bind fun τ'=>r.ex τ' st body) (p.1.size p.2 + 1) 0 τ p.2
  | .whil c body=>loopW (fun τ st=>r.tst τ st c) (fun τ st=>r.ex τ st body) lim τ st
  | .aug i op e=>match τ[i]? with
    | some (some x)=>(r.ev τ st e).bind fun p=>(augD p.2 op x p.1).map fun z=>(.nx (τ.set i (some z)),p.2)
    | _=>none
  | .brk=>some (.bk τ,st)
  | .cnt=>some (.ct τ,st)
  | .pass=>some (.nx τ,st)
noncomputable def exs (f : Sl→Store→S→Option (Out × Store)) : List S→Sl→Store→Option (Out × Store)
  | [],τ,st=>some (.nx τ,st)
  | s::ss,τ,st=>(f τ st s).bind fun p=>match p.1 with
    | .nx τ'=>exs f ss τ' p.2
    | o=>some (o,p.2)
noncomputable def stepCall (fns : List Fn) (r : R) (f : Nat) (ds : List D) (st : Store) : Option (D × Store) :=
  match fns[f]? with
  | some F=>if ds.length = F.np then (r.ex (ds.map some++List.replicate (F.nl - ds.length) none) st F.body).bind fun p=>match p.1 with
      | .rt d=>some (d,p.2)
      | .nx _=>some (.non,p.2)
      | _=>none
    else none
  | none=>none
noncomputable def step (c : Nat→List D→Store→Option (D × Store)) (r : R) : R:=⟨stepEv r,stepTst r,fun τ st ss=>exs (stepEx r) ss τ st,c⟩
noncomputable def runK (c : Nat→List D→Store→Option (D × Store)) : Nat→R
  | 0=>⟨fun _ _ _=>none,fun _ _ _=>none,fun _ _ _=>none,c⟩
  | k + 1=>step c (runK c k)
open Classical in
noncomputable def lim1 {α : Type} (f : Nat→Option α) : Option α:=if h : ∃ x,∃ n,f n = some x then some h.choose else none
noncomputable def RL (c : Nat→List D→Store→Option (D × Store)) : R:=⟨fun τ st e=>lim1 fun n=>(runK c n).ev τ st e,fun τ st e=>lim1 fun n=>(runK c n).tst τ st e,fun τ st e=>lim1 fun n=>(runK c n).ex τ st e,c⟩
noncomputable def callD (fns : List Fn) : Nat→Nat→List D→Store→Option (D × Store)
  | 0=>fun _ _ _=>none
  | d + 1=>stepCall fns (RL (callD fns d))
noncomputable abbrev rn (fns : List Fn) (d n : Nat) : R:=runK (callD fns d) n
noncomputable abbrev Lv (fns : List Fn) (d : Nat) : R:=RL (callD fns d)
theorem lim1_is {α : Type} {f : Nat→Option α} {x : α} (h : lim1 f = some x) : ∃ n,f n = some x:=by
  unfold lim1 at h
  split at h
  · rename_i hx
    obtain ⟨n,hn⟩:=hx.choose_spec
    exact ⟨n,by rw [hn]; exact h⟩
  · cases h
theorem runK_call (c : Nat→List D→Store→Option (D × Store)) : ∀ n,(runK c n).call = c
  | 0=>rfl
  | _ + 1=>rfl
end M
end
section
set_option linter.all false
namespace M
open PySem (Str)
theorem exs_split : ∀ (a : List S) {b : List S} {f : Sl→Store→S→Option (Out × Store)} {τ τ' : Sl} {s s' : Store},exs f a τ s = some (.nx τ',s')→exs f (a++b) τ s = exs f b τ' s'
  | [],b,f,τ,τ',s,s',h=>by cases h; rfl
  | x::a,b,f,τ,τ',s,s',h=>by
    simp only [exs,List.cons_append] at h ⊢
    cases q : f τ s x with
    | none=>rw [q] at h; cases h
    | some p =>
      rw [q] at h
      simp only [Option.bind_some] at h ⊢
      cases hp : p.1 with
      | nx τ2=>rw [hp] at h; simp only at h ⊢; exact exs_split a h
      | rt d=>rw [hp] at h; cases h
      | bk d=>rw [hp] at h; cases h
      | ct d=>rw [hp] at h; cases h
theorem exs_cons {x : S} {b : List S} {f : Sl→Store→S→Option (Out × Store)} {τ τ' : Sl} {s s' : Store} (h : f τ s x = some (.nx τ',s')) : exs f (x::b) τ s = exs f b τ' s':=by
  simp only [exs,h,Option.bind_some]
theorem exs_ret {x : S} {b : List S} {f : Sl→Store→S→Option (Out × Store)} {τ : Sl} {s s' : Store} {d : D} (h : f τ s x = some (.rt d,s')) : exs f (x::b) τ s = some (.rt d,s'):=by
  simp only [exs,h,Option.bind_some]
theorem eqT_bb (a b : Bool) : eqT (.bl a) (.bl b) = (a == b):=by rw [eqT]
theorem eqT_ii (a b : Int) : eqT (.int a) (.int b) = (a == b):=by rw [eqT]
theorem eqT_ss (a b : Str) : eqT (.str a) (.str b) = (a == b):=by rw [eqT]
theorem eqT_nn : eqT .non .non = true:=by rw [eqT]
theorem flat_b (n : Nat) (a : Bool) : flat n (.bl a) = true:=by cases n <;> rfl
theorem flat_i (n : Nat) (a : Int) : flat n (.int a) = true:=by cases n <;> rfl
theorem flat_s (n : Nat) (a : Str) : flat n (.str a) = true:=by cases n <;> rfl
theorem flat_n (n : Nat) : flat n .non = true:=by cases n <;> rfl
theorem eqD_bb (st : Store) (a b : Bool) : eqD st (.bl a) (.bl b) = some (a == b):=by simp [eqD,seqAt,flat_b,eqT_bb]
theorem eqD_ii (st : Store) (a b : Int) : eqD st (.int a) (.int b) = some (a == b):=by simp [eqD,seqAt,flat_i,eqT_ii]
theorem eqD_ss (st : Store) (a b : Str) : eqD st (.str a) (.str b) = some (a == b):=by simp [eqD,seqAt,flat_s,eqT_ss]
theorem eqD_nn (st : Store) : eqD st .non .non = some true:=by simp [eqD,seqAt,flat_n,eqT_nn]
theorem loop_rng' {f : Sl→Store→D→Option (Out × Store)} {lo : Int} {n : Nat} (P : Nat→Sl→Store→Prop) (hs : ∀ i τ st,i < n→P i τ st→∃ τ' st',f τ st (.int (lo + i)) = some (.nx τ',st')∧P (i + 1) τ' st') :
    ∀ (k i : Nat) (τ : Sl) (st : Store),i + k = n→P i τ st→∃ τ' st',loop (.rng lo n) f (k + 1) i τ st = some (.nx τ',st')∧P n τ' st'
  | 0,i,τ,st,h,p=>by
    have : i = n:=by omega
    subst this
    exact ⟨τ,st,by simp [loop,Src.at],p⟩
  | k + 1,i,τ,st,h,p=>by
    have hi : i < n:=by omega
    obtain ⟨τ',st',e,q⟩:=hs i τ st hi p
    obtain ⟨τ2,st2,e2,q2⟩:=loop_rng' P hs k (i + 1) τ' st' (by omega) q
    refine ⟨τ2,st2,?_,q2⟩
    rw [loop]
    simp only [Src.at,hi,if_true,Option.bind_some,e]
    exact e2
theorem loop_rng {f : Sl→Store→D→Option (Out × Store)} {lo : Int} {n : Nat} {τ : Sl} {st : Store} (P : Nat→Sl→Store→Prop) (h0 : P 0 τ st) (hs : ∀ i τ st,i < n→P i τ st→∃ τ' st',f τ st (.int (lo + i)) = some (.nx τ',st')∧P (i + 1) τ' st') :
    ∃ τ' st',loop (.rng lo n) f (n + 1) 0 τ st = some (.nx τ',st')∧P n τ' st':=loop_rng' P hs n 0 τ st (by omega) h0
end M
end
section
set_option linter.all false
namespace M
open PySem (Str)
noncomputable def Co {α : Type} (a : Option α) (b : Nat→Option α) : Prop:=∀ x,a = some x→∃ n,∀ m,n ≤ m→b m = some x
theorem Co.refl {α : Type} (a : Option α) : Co a fun _=>a:=fun _ h=>⟨0,fun _ _=>h⟩
theorem Co.none {α : Type} (b : Nat→Option α) : Co Option.none b:=fun _ h=>by cases h
theorem Co.bind {α β : Type} {f : Option α} {f' : Nat→Option α} {g : α→Option β} {g' : Nat→α→Option β} (hf : Co f f') (hg : ∀ a,Co (g a) fun m=>g' m a) : Co (f.bind g) fun m=>(f' m).bind (g' m):=fun x h=>by
  cases e : f with
  | none=>rw [e] at h; cases h
  | some a =>
    rw [e] at h
    obtain ⟨n,hn⟩:=hf a e
    obtain ⟨k,hk⟩:=hg a x h
    refine ⟨max n k,fun m hm=>?_⟩
    simp only
    rw [hn m (by omega)]
    exact hk m (by omega)
theorem Co.map {α β : Type} {f : Option α} {f' : Nat→Option α} (g : α→β) (hf : Co f f') : Co (f.map g) fun m=>(f' m).map g:=fun x h=>by
  cases e : f with
  | none=>rw [e] at h; cases h
  | some a =>
    rw [e] at h
    obtain ⟨n,hn⟩:=hf a e
    refine ⟨n,fun m hm=>?_⟩
    simp only
    rw [hn m hm]
    exact h
theorem Co.ite {α : Type} {c : Prop} [Decidable c] {a b : Option α} {a' b' : Nat→Option α} (ha : Co a a') (hb : Co b b') : Co (if c then a else b) fun m=>if c then a' m else b' m:=by
  by_cases h : c
  · simp only [if_pos h]; exact ha
  · simp only [if_neg h]; exact hb
structure Le (r : R) (r' : Nat→R) : Prop where
  ev : ∀ τ st e,Co (r.ev τ st e) fun m=>(r' m).ev τ st e
  tst : ∀ τ st e,Co (r.tst τ st e) fun m=>(r' m).tst τ st e
  ex : ∀ τ st e,Co (r.ex τ st e) fun m=>(r' m).ex τ st e
  call : ∀ f ds st,Co (r.call f ds st) fun m=>(r' m).call f ds st
theorem evs_mono {f : Store→E→Option (D × Store)} {f' : Nat→Store→E→Option (D × Store)} (h : ∀ st e,Co (f st e) fun m=>f' m st e) : ∀ (es : List E) (st : Store),Co (evs f es st) fun m=>evs (f' m) es st
  | [],st=>.refl _
  | e::es,st=>(h st e).bind fun p=>(evs_mono h es p.2).bind fun q=>.refl _
theorem loop_mono {it : Src} {f : Sl→Store→D→Option (Out × Store)} {f' : Nat→Sl→Store→D→Option (Out × Store)} (h : ∀ τ st d,Co (f τ st d) fun m=>f' m τ st d) : ∀ (k i : Nat) (τ : Sl) (st : Store),Co (loop it f k i τ st) fun m=>loop it (f' m) k i τ st
  | 0,_,_,_=>.refl _
  | k + 1,i,τ,st=>by
    unfold loop
    refine (Co.refl _).bind fun o=>?_
    cases o with
    | none=>exact .refl _
    | some d =>
      refine (h τ st d).bind fun p=>?_
      cases hp : p.1 with
      | nx τ'=>exact loop_mono h k _ _ _
      | ct τ'=>exact loop_mono h k _ _ _
      | bk τ'=>exact .refl _
      | rt v=>exact .refl _
theorem loopC_mono {it : Src} {f : Sl→Store→D→Option (Option D × Sl × Store)} {f' : Nat→Sl→Store→D→Option (Option D × Sl × Store)} (h : ∀ τ st d,Co (f τ st d) fun m=>f' m τ st d) : ∀ (k i : Nat) (acc : List D) (τ : Sl) (st : Store),Co (loopC it f k i acc τ st) fun m=>loopC it (f' m) k i acc τ st
  | 0,_,_,_,_=>.refl _
  | k + 1,i,acc,τ,st=>by
    unfold loopC
    refine (Co.refl _).bind fun o=>?_
    cases o with
    | none=>exact .refl _
    | some d=>exact Co.ite (.refl _) ((h τ st d).bind fun p=>loopC_mono h k _ _ _ _)
theorem loopW_mono {f : Sl→Store→Option (Bool × Store)} {f' : Nat→Sl→Store→Option (Bool × Store)} {g : Sl→Store→Option (Out × Store)} {g' : Nat→Sl→Store→Option (Out × Store)} (h : ∀ τ st,Co (f τ st) fun m=>f' m τ st) (h' : ∀ τ st,Co (g τ st) fun m=>g' m τ st) : ∀ (k : Nat) (τ : Sl) (st : Store),Co (loopW f g k τ st) fun m=>loopW (f' m) (g' m) k τ st
  | 0,_,_=>.refl _
  | k + 1,τ,st=>by
    unfold loopW
    refine (h τ st).bind fun b=>Co.ite ((h' τ _).bind fun p=>?_) (.refl _)
    cases hp : p.1 with
    | nx τ'=>exact loopW_mono h h' k _ _
    | ct τ'=>exact loopW_mono h h' k _ _
    | bk τ'=>exact .refl _
    | rt v=>exact .refl _
theorem exs_mono {f : Sl→Store→S→Option (Out × Store)} {f' : Nat→Sl→Store→S→Option (Out × Store)} (h : ∀ τ st s,Co (f τ st s) fun m=>f' m τ st s) : ∀ (ss : List S) (τ : Sl) (st : Store),Co (exs f ss τ st) fun m=>exs (f' m) ss τ st
  | [],_,_=>.refl _
  | s::ss,τ,st=>by
    unfold exs
    refine (h τ st s).bind fun p=>?_
    cases hp : p.1 with
    | nx τ'=>exact exs_mono h ss _ _
    | _=>exact .refl _
section
variable {r : R} {r' : Nat→R} (h : Le r r')
include h
theorem src_mono (τ : Sl) (st : Store) (e : E) : Co (src r τ st e) fun m=>src (r' m) τ st e:=by
  cases e with
  | rng1 a=>exact (h.ev τ st a).bind fun p=>.refl _
  | rng2 a b=>exact (h.ev τ st a).bind fun p=>(h.ev τ _ b).bind fun q=>.refl _
  | rng3 a b c=>exact (h.ev τ st a).bind fun p=>(h.ev τ _ b).bind fun q=>(h.ev τ _ c).bind fun u=>.refl _
  | zip a b=>exact (h.ev τ st a).bind fun p=>(h.ev τ _ b).bind fun q=>.refl _
  | _=>exact (h.ev τ st _).bind fun p=>.refl _
theorem part_mono (τ : Sl) (st : Store) (e : Option E) : Co (part r τ st e) fun m=>part (r' m) τ st e:=by
  cases e with
  | none=>exact .refl _
  | some e=>exact (h.ev τ st e).bind fun p=>.refl _
theorem turnC_mono (t : T) (test : Option E) (elt : E) (τ : Sl) (st : Store) (d : D) : Co (turnC r t test elt τ st d) fun m=>turnC (r' m) t test elt τ st d:=by
  unfold turnC
  refine (Co.refl _).bind fun τ'=>?_
  cases test with
  | none=>exact (h.ev _ _ _).map _
  | some c=>exact (h.tst _ _ _).bind fun b=>Co.ite ((h.ev _ _ _).map _) (.refl _)
theorem dinR_mono (τ : Sl) (st : Store) (neg : Bool) (a b : E) : Co (dinR r τ st neg a b) fun m=>dinR (r' m) τ st neg a b:=(h.ev τ st a).bind fun p=>(h.ev τ _ b).bind fun q=>.refl _
theorem ginR_mono (τ : Sl) (st : Store) (neg : Bool) (ks : List PySem.Str) (b : E) : Co (ginR r τ st neg ks b) fun m=>ginR (r' m) τ st neg ks b:=(h.ev τ st b).bind fun p=>.refl _
theorem stepEv_mono (τ : Sl) (st : Store) (e : E) : Co (stepEv r τ st e) fun m=>stepEv (r' m) τ st e:=by
  cases e with
  | var i=>exact .refl _
  | lit d=>exact .refl _
  | glo x d=>exact .refl _
  | bin op a b=>exact (h.ev τ st a).bind fun p=>(h.ev τ _ b).bind fun q=>.refl _
  | neg a=>exact (h.ev τ st a).bind fun p=>.refl _
  | not a=>exact (h.ev τ st a).bind fun p=>.refl _
  | cmp op a b=>exact (h.ev τ st a).bind fun p=>(h.ev τ _ b).bind fun q=>.refl _
  | cmp2 op op' a b c=>exact (h.ev τ st a).bind fun p=>(h.ev τ _ b).bind fun q=>(Co.refl _).bind fun k=>Co.ite ((h.ev τ _ c).bind fun u=>.refl _) (.refl _)
  | and a b =>
    refine (h.ev τ st a).bind fun p=>?_
    obtain ⟨d,s⟩:=p
    cases d with
    | bl k=>cases k with
      | true=>exact h.ev τ _ b
      | false=>exact .refl _
    | _=>exact .refl _
  | or a b =>
    refine (h.ev τ st a).bind fun p=>?_
    obtain ⟨d,s⟩:=p
    cases d with
    | bl k=>cases k with
      | false=>exact h.ev τ _ b
      | true=>exact .refl _
    | _=>exact .refl _
  | ite c a b=>exact (h.tst τ st c).bind fun p=>Co.ite (h.ev τ _ a) (h.ev τ _ b)
  | tup es=>exact (evs_mono (h.ev τ) es st).bind fun p=>.refl _
  | lst es=>exact (evs_mono (h.ev τ) es st).bind fun p=>.refl _
  | idx a b=>exact (h.ev τ st a).bind fun p=>(h.ev τ _ b).bind fun q=>.refl _
  | sli a lo hi=>exact (h.ev τ st a).bind fun p=>(part_mono h τ _ lo).bind fun l=>(part_mono h τ _ hi).bind fun u=>.refl _
  | call f es=>exact (evs_mono (h.ev τ) es st).bind fun p=>h.call f _ _
  | bcall f es=>exact (evs_mono (h.ev τ) es st).bind fun p=>.refl _
  | isi a ts m=>exact (h.ev τ st a).bind fun p=>.refl _
  | gc a=>exact (h.ev τ st a).map _
  | meth a m es=>exact (h.ev τ st a).bind fun p=>Co.ite ((evs_mono (h.ev τ) es _).bind fun q=>.refl _) (.refl _)
  | rng1 a=>exact .refl _
  | rng2 a b=>exact .refl _
  | rng3 a b c=>exact .refl _
  | zip a b=>exact .refl _
  | dic es=>exact (evs_mono (h.ev τ) es _).bind fun p=>.refl _
  | didx a b=>exact (h.ev τ st a).bind fun p=>(h.ev τ _ b).bind fun q=>.refl _
  | din neg a b=>exact dinR_mono h τ st neg a b
  | dgt a b =>
    refine (h.ev τ st a).bind fun p=>?_
    obtain ⟨d,s⟩:=p
    cases d with
    | loc l=>exact (Co.refl _).bind fun _=>(h.ev τ _ b).bind fun q=>.refl _
    | _=>exact .refl _
  | fmt a=>exact (h.ev τ st a).bind fun p=>.refl _
  | fstr es=>exact (evs_mono (h.ev τ) es st).bind fun p=>.refl _
  | gidx x ks ds b=>exact (h.ev τ st b).bind fun p=>.refl _
  | gin neg x ks b=>exact ginR_mono h τ st neg ks b
  | comp t it test elt sr=>exact (src_mono h τ st it).bind fun p=>(loopC_mono (turnC_mono h t test elt) _ _ _ _ _).map _
theorem stepTst_mono (τ : Sl) (st : Store) (e : E) : Co (stepTst r τ st e) fun m=>stepTst (r' m) τ st e:=by
  cases e with
  | not a=>exact (h.tst τ st a).map _
  | and a b=>exact (h.tst τ st a).bind fun p=>Co.ite (h.tst τ _ b) (.refl _)
  | or a b=>exact (h.tst τ st a).bind fun p=>Co.ite (.refl _) (h.tst τ _ b)
  | ite _ _ _=>exact .refl _
  | din neg a b=>exact (dinR_mono h τ st neg a b).bind fun p=>.refl _
  | gin neg x ks b=>exact (ginR_mono h τ st neg ks b).bind fun p=>.refl _
  | cmp op a b=>exact (h.ev τ st a).bind fun p=>(h.ev τ _ b).bind fun q=>.refl _
  | cmp2 op op' a b c=>exact (h.ev τ st a).bind fun p=>(h.ev τ _ b).bind fun q=>(Co.refl _).bind fun k=>Co.ite ((h.ev τ _ c).bind fun u=>.refl _) (.refl _)
  | _=>exact (h.ev τ st _).bind fun p=>.refl _
theorem stepEx_mono (τ : Sl) (st : Store) (s : S) : Co (stepEx r τ st s) fun m=>stepEx (r' m) τ st s:=by
  cases s with
  | set t e=>exact (h.ev τ st e).bind fun p=>.refl _
  | setIx a i e=>exact (h.ev τ st e).bind fun p=>(h.ev τ _ a).bind fun q=>(h.ev τ _ i).bind fun u=>.refl _
  | dset a i e=>exact (h.ev τ st e).bind fun p=>(h.ev τ _ a).bind fun q=>(h.ev τ _ i).bind fun u=>.refl _
  | rais=>exact .refl _
  | expr e=>exact (h.ev τ st e).map _
  | ret e=>exact (h.ev τ st e).map _
  | retN=>exact .refl _
  | ite c a b=>exact (h.tst τ st c).bind fun p=>Co.ite (h.ex τ _ a) (h.ex τ _ b)
  | forr t it body=>exact (src_mono h τ st it).bind fun p=>loop_mono (fun τ st d=>(Co.refl _).bind fun τ'=>h.ex τ' st body) _ _ _ _
  | whil c body=>exact loopW_mono (fun τ st=>h.tst τ st c) (fun τ st=>h.ex τ st body) _ _ _
  | aug i op e =>
    simp only [stepEx]
    cases h1 : τ[i]? with
    | none=>exact .none _
    | some o =>
      cases o with
      | none=>exact .none _
      | some x=>exact (h.ev τ st e).bind fun p=>.refl _
  | brk=>exact .refl _
  | cnt=>exact .refl _
  | pass=>exact .refl _
theorem step_mono (c : Nat→List D→Store→Option (D × Store)) : Le (step c r) fun m=>step c (r' m) :=
  ⟨stepEv_mono h,stepTst_mono h,fun τ st ss=>exs_mono (stepEx_mono h) ss τ st,fun f ds st=>.refl _⟩
end
theorem run_succ (c : Nat→List D→Store→Option (D × Store)) : ∀ n,Le (runK c n) fun _=>runK c (n + 1)
  | 0=>⟨fun _ _ _=>.none _,fun _ _ _=>.none _,fun _ _ _=>.none _,fun _ _ _=>.refl _⟩
  | n + 1=>step_mono (run_succ c n) c
section
variable {c : Nat→List D→Store→Option (D × Store)} {n N : Nat}
theorem ev_up {τ : Sl} {st : Store} {e : E} {x : D × Store} (h : (runK c n).ev τ st e = some x) (hN : n ≤ N) : (runK c N).ev τ st e = some x:=by
  induction hN with
  | refl=>exact h
  | step _ ih=>obtain ⟨k,hk⟩:=(run_succ c _).ev τ st e x ih; exact hk k (Nat.le_refl _)
theorem ex_up {τ : Sl} {st : Store} {e : List S} {x : Out × Store} (h : (runK c n).ex τ st e = some x) (hN : n ≤ N) : (runK c N).ex τ st e = some x:=by
  induction hN with
  | refl=>exact h
  | step _ ih=>obtain ⟨k,hk⟩:=(run_succ c _).ex τ st e x ih; exact hk k (Nat.le_refl _)
end
theorem lim1_of {α : Type} {f : Nat→Option α} {n : Nat} {x : α} (up : ∀ n N x,f n = some x→n ≤ N→f N = some x) (h : f n = some x) : lim1 f = some x:=by
  have hx : ∃ x,∃ n,f n = some x:=⟨x,n,h⟩
  unfold lim1
  rw [dif_pos hx]
  obtain ⟨k,hk⟩:=hx.choose_spec
  have e1:=up _ (max n k) _ h (by omega)
  have e2:=up _ (max n k) _ hk (by omega)
  rw [e1] at e2
  exact e2.symm
section
variable {fns : List Fn} {d : Nat} {τ : Sl} {st : Store}
theorem call_of {f : Nat} {F : Fn} {ds : List D} {st' : Store} {v : D} (n : Nat) (hf : fns[f]? = some F) (hl : ds.length = F.np) (hτ : ds.map some++List.replicate (F.nl - ds.length) none = τ)
    (h : exs (stepEx (rn fns d n)) F.body τ st = some (.rt v,st')) : callD fns (d + 1) f ds st = some (v,st'):=by
  show stepCall fns (RL (callD fns d)) f ds st = _
  unfold stepCall
  rw [hf]
  dsimp only
  have e : (RL (callD fns d)).ex τ st F.body = some (.rt v,st'):=lim1_of (n:=n + 1) (fun _ _ _ h k=>ex_up h k) h
  rw [if_pos hl,hτ,e]
  rfl
theorem ev_k {c : Nat→List D→Store→Option (D × Store)} {n : Nat} (e : E) : (runK c (n + 1)).ev τ st e = stepEv (runK c n) τ st e:=rfl
theorem tst_k {c : Nat→List D→Store→Option (D × Store)} {n : Nat} (e : E) : (runK c (n + 1)).tst τ st e = stepTst (runK c n) τ st e:=rfl
theorem ex_k {c : Nat→List D→Store→Option (D × Store)} {n : Nat} (e : List S) : (runK c (n + 1)).ex τ st e = exs (stepEx (runK c n)) e τ st:=rfl
theorem call_k {c : Nat→List D→Store→Option (D × Store)} {n : Nat} (f : Nat) (ds : List D) : (runK c (n + 1)).call f ds st = c f ds st:=rfl
end
end M
end
section
set_option linter.all false
namespace M
open PySem (Str)
section
variable {r : R} {s : Src} {S : Store} {rest : Sl} {elt : E} {ds : List D}
theorem loopC_map {es : List D} (hat : ∀ i,s.at S i = some ds[i]?) (hlen : es.length = ds.length) (hlim : ds.length < lim) (he : ∀ (i : Nat) (d e : D),ds[i]? = some d→es[i]? = some e→r.ev (some d::rest) S elt = some (e,S)) :
    ∀ (k i : Nat) (o : Option D),i + k = ds.length→loopC s (turnC r (.var 0) none elt) (k + 1) i (es.take i) (o::rest) S = some (es,S)
  | 0,i,o,h=>by
    have e : i = ds.length:=by omega
    subst e
    have h1 : es.take ds.length = es:=List.take_of_length_le (by omega)
    rw [loopC,hat,h1]
    simp only [Option.bind_some,List.getElem?_eq_none (Nat.le_refl _)]
    rw [if_neg (by omega)]
  | k + 1,i,o,h=>by
    have hi : i < ds.length:=by omega
    have h1 : ds[i]? = some ds[i]:=by simp
    have h2 : es[i]? = some (es[i]'(by omega)):=by simp
    have h3:=he i _ _ h1 h2
    rw [loopC,hat,h1]
    simp only [Option.bind_some]
    rw [if_neg (by rw [List.length_take]; omega)]
    have e1 : turnC r (.var 0) none elt (o::rest) S ds[i] = some (some (es[i]'(by omega)),some ds[i]::rest,S):=by
      unfold turnC
      simp only [setT,List.length_cons,Nat.zero_lt_succ,if_true,List.set_cons_zero,Option.bind_some,h3,Option.map_some]
    rw [e1]
    simp only [Option.bind_some]
    rw [show es.take i++[es[i]'(by omega)] = es.take (i + 1) by rw [List.take_succ_eq_append_getElem (by omega)]]
    exact loopC_map hat hlen hlim he k (i + 1) _ (by omega)
end
theorem comp_map {r : R} {τ : Sl} {S S' : Store} {it elt : E} {sr : List (Option Nat)} {s : Src} {rest : Sl} {ds es : List D} (hsrc : src r τ S it = some (s,S')) (hat : ∀ i,s.at S' i = some ds[i]?) (hsz : s.size S' = ds.length) (hin : inner sr τ = none::rest) (hlen : es.length = ds.length) (hlim : ds.length < lim)
    (he : ∀ (i : Nat) (d e : D),ds[i]? = some d→es[i]? = some e→r.ev (some d::rest) S' elt = some (e,S')) : stepEv r τ S (.comp (.var 0) it none elt sr) = some (.loc S'.length,S'++[.lst true es]):=by
  have h:=loopC_map (r:=r) (s:=s) (S:=S') (rest:=rest) (elt:=elt) hat hlen hlim he ds.length 0 none (by omega)
  show ((src r τ S it).bind fun p=>(loopC p.1 (turnC r (.var 0) none elt) (p.1.size p.2 + 1) 0 [] (inner sr τ) p.2).map fun q=>alloc q.2 (.lst true q.1)) = _
  rw [hsrc]
  simp only [Option.bind_some,hsz,hin]
  rw [show ([] : List D) = es.take 0 by simp,h]
  rfl
theorem at_rng {S : Store} (lo : Int) (n : Nat) (i : Nat) : (Src.rng lo n).at S i = some ((List.range n).map fun (j : Nat)=>D.int (lo + j))[i]?:=by
  simp only [Src.at,List.getElem?_map]
  by_cases h : i < n
  · rw [if_pos h,List.getElem?_range h]; rfl
  · rw [if_neg h,List.getElem?_eq_none (by simpa using h)]; rfl
end M
end
section
set_option linter.all false
set_option maxRecDepth 10000
set_option maxHeartbeats 4000000
namespace M
open PySem (Str)
section
variable {st r : Store} {d : D} {ds : List D}
theorem gc_app (h : noLoc d = true) : gcD st (d,st++r) = (d,st):=by
  unfold gcD
  rw [if_pos (by simp),if_pos h]
theorem gc_same (h : noLoc d = true) : gcD st (d,st) = (d,st):=by
  have:=gc_app (st:=st) (r:=[]) h
  rwa [List.append_nil] at this
theorem gc_int (i : Int) : gcD st (.int i,st) = (.int i,st):=gc_same rfl
theorem gc_bl (i : Bool) : gcD st (.bl i,st) = (.bl i,st):=gc_same rfl
theorem noLoc_tup : noLoc (.tup ds) = noLocs ds:=by rw [noLoc]
theorem noLoc_lst : noLoc (.lst ds) = noLocs ds:=by rw [noLoc]
theorem noLocs_cons : noLocs (d::ds) = (noLoc d && noLocs ds):=rfl
theorem noLocs_all : ∀ {ds : List D},noLocs ds = ds.all noLoc
  | []=>rfl
  | d::ds=>by rw [noLocs_cons,List.all_cons,noLocs_all]
theorem noLocs_of (h : ∀ d ∈ ds,noLoc d = true) : noLocs ds = true:=by rw [noLocs_all,List.all_eq_true]; exact h
theorem noLocs_map {α : Type} {xs : List α} {g : α→D} (h : ∀ x ∈ xs,noLoc (g x) = true) : noLocs (xs.map g) = true:=noLocs_of fun d hd=>by
  obtain ⟨x,hx,rfl⟩:=List.mem_map.mp hd
  exact h x hx
theorem noLocs_append {es : List D} : noLocs (ds++es) = (noLocs ds && noLocs es):=by rw [noLocs_all,noLocs_all,noLocs_all,List.all_append]
theorem gc_new (h : noLocs ds = true) : gcD st (.loc st.length,st++[.lst true ds]) = (.lst ds,st):=by
  unfold gcD
  rw [if_pos (by simp),if_neg (by simp [noLoc])]
  simp [h]
theorem gc_new' {k : Nat} (h : noLocs ds = true) (hk : r[k]? = some (.lst true ds)) : gcD st (.loc (st.length + k),st++r) = (.lst ds,st):=by
  unfold gcD
  rw [if_pos (by simp),if_neg (by simp [noLoc])]
  have e : (st++r)[st.length + k]? = some (.lst true ds):=by rw [List.getElem?_append_right (by omega),show st.length + k - st.length = k by omega]; exact hk
  simp only [e,h]
  simp
end
theorem stepEx_ite_t {r : R} {τ : Sl} {st st' : Store} {c : E} {a b : List S} (h : r.tst τ st c = some (true,st')) : stepEx r τ st (.ite c a b) = r.ex τ st' a:=by
  rw [stepEx,h]; rfl
theorem stepEx_ite_f {r : R} {τ : Sl} {st st' : Store} {c : E} {a b : List S} (h : r.tst τ st c = some (false,st')) : stepEx r τ st (.ite c a b) = r.ex τ st' b:=by
  rw [stepEx,h]; rfl
noncomputable def cDraw : List S:=[
  .set (.var 4) (.lit (.int 0)),
  .set (.var 5) (.lit (.int 1)),
  .ite (.cmp .Gt (.bcall .len [(.var 0)]) (.lit (.int 0))) [.set (.var 4) (.idx (.var 0) (.bin .Mod (.var 1) (.bcall .len [(.var 0)]))),.set (.var 5) (.bin .FloorDiv (.var 1) (.bcall .len [(.var 0)]))] [],
  .set (.var 6) (.var 4),
  .forr (.var 7) (.rng1 (.var 2)) [.set (.var 6) (.bin .FloorDiv (.var 6) (.bin .Pow (.lit (.int 10)) (.lit (.int 10))))],
  .ite (.and (.cmp .Eq (.var 5) (.lit (.int 0))) (.and (.cmp .GtE (.var 4) (.bin .Pow (.lit (.int 10)) (.lit (.int 18)))) (.cmp .Gt (.var 6) (.lit (.int 0))))) [.ret (.bin .Mod (.bin .Mod (.var 6) (.bin .Pow (.lit (.int 10)) (.lit (.int 10)))) (.var 3))] [],
  .set (.var 8) (.bin .Mod (.bin .Add (.bin .Add (.bin .Add (.bin .Mult (.var 4) (.lit (.int 7919))) (.bin .Mult (.var 1) (.lit (.int 104729)))) (.bin .Mult (.var 2) (.lit (.int 1299709)))) (.lit (.int 31))) (.lit (.int 1000000007))),
  .set (.var 9) (.bin .Mod (.bin .Add (.bin .Mult (.var 8) (.lit (.int 48271))) (.bin .FloorDiv (.var 4) (.lit (.int 1009)))) (.lit (.int 998244353))),
  .set (.var 9) (.bin .Mod (.bin .Add (.bin .Mult (.var 9) (.bin .Add (.bin .Mod (.var 8) (.lit (.int 9973))) (.lit (.int 1)))) (.var 2)) (.lit (.int 1000000009))),
  .ret (.bin .Mod (.bin .Mod (.bin .Add (.bin .Add (.bin .Mult (.var 8) (.lit (.int 69621))) (.bin .Mult (.var 9) (.lit (.int 40692)))) (.bin .FloorDiv (.var 9) (.lit (.int 1013)))) (.lit (.int 2147483647))) (.var 3))]
noncomputable def cDrawIf : S:=.ite (.and (.cmp .Eq (.var 5) (.lit (.int 0))) (.and (.cmp .GtE (.var 4) (.bin .Pow (.lit (.int 10)) (.lit (.int 18)))) (.cmp .Gt (.var 6) (.lit (.int 0))))) [.ret (.bin .Mod (.bin .Mod (.var 6) (.bin .Pow (.lit (.int 10)) (.lit (.int 10)))) (.var 3))] []
noncomputable def fDraw : Fn:=⟨4,10,cDraw⟩
theorem mulOk_r {a b : Int} (h1 : -(2 ^ 64) < b) (h2 : b < 2 ^ 64) : mulOk a b = true:=by unfold mulOk; simp; omega
theorem mulOk_l {a b : Int} (h1 : -(2 ^ 64) < a) (h2 : a < 2 ^ 64) : mulOk a b = true:=by unfold mulOk; simp; omega
noncomputable def drawC (ns : List Int) (k : Int) : Int × Int:=if ns = [] then (0,1) else (ns.getD (k % (ns.length : Int)).toNat 0,k / ns.length)
noncomputable def iterD : Nat→Int→Int
  | 0,c=>c
  | n + 1,c=>iterD n c / 10000000000
noncomputable def drawF (c k j many : Int) : Int:=(fun one=>(fun two=>(fun two'=>(one * 69621 + two' * 40692 + two' / 1013) % 2147483647 % many) ((two * (one % 9973 + 1) + j) % 1000000009)) ((one * 48271 + c / 1009) % 998244353)) ((c * 7919 + k * 104729 + j * 1299709 + 31) % 1000000007)
noncomputable def drawV (ns : List Int) (k j many : Int) : Int :=
  if (drawC ns k).2 = 0∧1000000000000000000 ≤ (drawC ns k).1∧0 < iterD j.toNat (drawC ns k).1 then iterD j.toNat (drawC ns k).1 % 10000000000 % many else drawF (drawC ns k).1 k j many
theorem drawV_lo (ns : List Int) (k j : Int) {many : Int} (h : 0 < many) : 0 ≤ drawV ns k j many:=by
  unfold drawV
  split
  · exact Int.emod_nonneg _ (by omega)
  · exact Int.emod_nonneg _ (by omega)
theorem drawV_hi (ns : List Int) (k j : Int) {many : Int} (h : 0 < many) : drawV ns k j many < many:=by
  unfold drawV
  split
  · exact Int.emod_lt_of_pos _ h
  · exact Int.emod_lt_of_pos _ h
theorem draw_eq' {fns : List Fn} {f : Nat} (hf : fns[f]? = some fDraw) (q n : Nat) (st : Store) (ns : List Int) (k j many : Int) (hn : ns.length ≤ 63) (hj : 0 ≤ j) (hj2 : j < 100000) (hm : 0 < many) :
    callD fns (n + 1) f [.lst (ns.map D.int),.int k,.int j,.int many] st = some (.int (drawV ns k j many),st):=by
  generalize hC : drawC ns k = C
  obtain ⟨cell,turn⟩:=C
  have first : exs (stepEx (rn fns n (q + 30))) (cDraw.take 4) [some (.lst (ns.map D.int)),some (.int k),some (.int j),some (.int many),none,none,none,none,none,none] st =
      some (.nx [some (.lst (ns.map D.int)),some (.int k),some (.int j),some (.int many),some (.int cell),some (.int turn),some (.int cell),none,none,none],st):=by
    by_cases he : ns = []
    · subst he
      cases hC
      simp [cDraw,exs,stepEx,ev_k,stepEv,tst_k,stepTst,evs,bfun,bLen,seqAt,cmpD,setT,truth,ex_k]
    · have hp : 0 < ns.length:=List.length_pos_iff.mpr he
      have h1 : 0 ≤ k % (ns.length : Int):=Int.emod_nonneg _ (by omega)
      have h2 : k % (ns.length : Int) < ns.length:=Int.emod_lt_of_pos _ (by omega)
      have h5 : (k % (ns.length : Int)).toNat < ns.length:=by omega
      have e1 : drawC ns k = (ns[(k % (ns.length : Int)).toNat]'h5,k / ns.length):=by
        unfold drawC
        rw [if_neg he,List.getD_eq_getElem?_getD,List.getElem?_eq_getElem h5]
        rfl
      rw [hC] at e1
      cases e1
      have hz : 0 < (ns.length : Int):=by omega
      have l1 : ∀ S,bLen S [.lst (ns.map D.int)] = some (.int ns.length,S):=fun S=>by simp [bLen,seqAt]
      have o1 : ∀ S,binop S .Mod (.int k) (.int ns.length) = some (.int (k % ns.length),S):=fun S=>by simp only [binop]; rw [if_pos hz]
      have o2 : ∀ S,binop S .FloorDiv (.int k) (.int ns.length) = some (.int (k / ns.length),S):=fun S=>by simp only [binop]; rw [if_pos ⟨hz,by omega⟩]
      have o3 : ∀ S,idxD S (.lst (ns.map D.int)) (.int (k % ns.length)) = some (.int (ns[(k % (ns.length : Int)).toNat]'h5)):=fun S=>by
        simp [idxD,seqAt,atI,ixN,h1,h2,h5]
      have t1 : (rn fns n (q + 30)).tst [some (.lst (ns.map D.int)),some (.int k),some (.int j),some (.int many),some (.int 0),some (.int 1),none,none,none,none] st (.cmp .Gt (.bcall .len [(.var 0)]) (.lit (.int 0))) = some (true,st):=by
        simp only [tst_k,stepTst,ev_k,stepEv,evs,List.getElem?_cons_zero,Option.bind_some,bfun,l1,cmpD,Option.map_some,decide_eq_true hz]
      show exs (stepEx (rn fns n (q + 30))) [.set (.var 4) (.lit (.int 0)),.set (.var 5) (.lit (.int 1)),.ite (.cmp .Gt (.bcall .len [(.var 0)]) (.lit (.int 0))) [.set (.var 4) (.idx (.var 0) (.bin .Mod (.var 1) (.bcall .len [(.var 0)]))),.set (.var 5) (.bin .FloorDiv (.var 1) (.bcall .len [(.var 0)]))] [],.set (.var 6) (.var 4)] _ st = _
      rw [exs_cons (τ':=[some (.lst (ns.map D.int)),some (.int k),some (.int j),some (.int many),some (.int 0),none,none,none,none,none]) (s':=st) rfl]
      rw [exs_cons (τ':=[some (.lst (ns.map D.int)),some (.int k),some (.int j),some (.int many),some (.int 0),some (.int 1),none,none,none,none]) (s':=st) rfl]
      rw [exs_cons (τ':=[some (.lst (ns.map D.int)),some (.int k),some (.int j),some (.int many),some (.int (ns[(k % (ns.length : Int)).toNat]'h5)),some (.int (k / ns.length)),none,none,none,none]) (s':=st) (by
        rw [stepEx_ite_t t1,ex_k]
        rw [exs_cons (τ':=[some (.lst (ns.map D.int)),some (.int k),some (.int j),some (.int many),some (.int (ns[(k % (ns.length : Int)).toNat]'h5)),some (.int 1),none,none,none,none]) (s':=st) (by
          simp only [stepEx,ev_k,stepEv,evs,List.getElem?_cons_succ,List.getElem?_cons_zero,Option.bind_some,bfun,l1,o1,o3,Option.map_some]
          rfl)]
        rw [exs_cons (τ':=[some (.lst (ns.map D.int)),some (.int k),some (.int j),some (.int many),some (.int (ns[(k % (ns.length : Int)).toNat]'h5)),some (.int (k / ns.length)),none,none,none,none]) (s':=st) (by
          simp only [stepEx,ev_k,stepEv,evs,List.getElem?_cons_succ,List.getElem?_cons_zero,Option.bind_some,bfun,l1,o2,Option.map_some]
          rfl)]
        rfl)]
      rfl
  have second : ∃ (o : Option D),stepEx (rn fns n (q + 30)) [some (.lst (ns.map D.int)),some (.int k),some (.int j),some (.int many),some (.int cell),some (.int turn),some (.int cell),none,none,none] st
      (.forr (.var 7) (.rng1 (.var 2)) [.set (.var 6) (.bin .FloorDiv (.var 6) (.bin .Pow (.lit (.int 10)) (.lit (.int 10))))]) =
      some (.nx [some (.lst (ns.map D.int)),some (.int k),some (.int j),some (.int many),some (.int cell),some (.int turn),some (.int (iterD j.toNat cell)),o,none,none],st):=by
    have hb : big j = false:=by unfold big; simp; omega
    obtain ⟨τ',st',e,o,rfl,rfl⟩:=loop_rng (lo:=0) (n:=j.toNat) (τ:=[some (.lst (ns.map D.int)),some (.int k),some (.int j),some (.int many),some (.int cell),some (.int turn),some (.int cell),none,none,none]) (st:=st)
      (f:=fun τ st d=>(setT (.var 7) d τ).bind fun τ'=>(rn fns n (q + 30)).ex τ' st [.set (.var 6) (.bin .FloorDiv (.var 6) (.bin .Pow (.lit (.int 10)) (.lit (.int 10))))])
      (fun i τ s=>∃ (o : Option D),τ = [some (.lst (ns.map D.int)),some (.int k),some (.int j),some (.int many),some (.int cell),some (.int turn),some (.int (iterD i cell)),o,none,none]∧s = st) ⟨none,rfl,rfl⟩ (by
        rintro i τ s hi ⟨o,rfl,rfl⟩
        refine ⟨[some (.lst (ns.map D.int)),some (.int k),some (.int j),some (.int many),some (.int cell),some (.int turn),some (.int (iterD i cell / 10000000000)),some (.int (0 + i)),none,none],s,?_,_,rfl,rfl⟩
        simp [setT,ex_k,exs,stepEx,ev_k,stepEv,binop])
    refine ⟨o,?_⟩
    simp only [stepEx,src,ev_k,stepEv,Src.size]
    simp only [List.getElem?_cons_succ,List.getElem?_cons_zero,Option.bind_some,hb,Bool.false_eq_true,if_false]
    exact e
  obtain ⟨o,e2⟩:=second
  generalize hR : iterD j.toNat cell = rest at e2
  have body : exs (stepEx (rn fns n (q + 30))) cDraw [some (.lst (ns.map D.int)),some (.int k),some (.int j),some (.int many),none,none,none,none,none,none] st = some (.rt (.int (drawV ns k j many)),st):=by
    have hb : cDraw = cDraw.take 4++cDraw.drop 4:=by simp
    rw [hb,exs_split _ first]
    have e3 : cDraw.drop 4 = .forr (.var 7) (.rng1 (.var 2)) [.set (.var 6) (.bin .FloorDiv (.var 6) (.bin .Pow (.lit (.int 10)) (.lit (.int 10))))]::cDraw.drop 5:=rfl
    rw [e3,exs_cons e2]
    unfold drawV
    rw [hC]
    dsimp only
    rw [hR]
    by_cases hc : turn = 0∧1000000000000000000 ≤ cell∧0 < rest
    · rw [if_pos hc]
      obtain ⟨c1,c2,c3⟩:=hc
      subst c1
      simp [cDraw,exs,stepEx,ev_k,stepEv,tst_k,stepTst,cmpD,eqD_ii,truth,binop,ex_k,c2,c3,hm]
    · rw [if_neg hc]
      have e4 : stepEx (rn fns n (q + 30)) [some (.lst (ns.map D.int)),some (.int k),some (.int j),some (.int many),some (.int cell),some (.int turn),some (.int rest),o,none,none] st cDrawIf = some (.nx [some (.lst (ns.map D.int)),some (.int k),some (.int j),some (.int many),some (.int cell),some (.int turn),some (.int rest),o,none,none],st):=by
        by_cases c1 : turn = 0
        · by_cases c2 : 1000000000000000000 ≤ cell
          · have c3 : ¬ 0 < rest:=fun z=>hc ⟨c1,c2,z⟩
            subst c1
            simp [cDrawIf,exs,stepEx,ev_k,stepEv,tst_k,stepTst,cmpD,eqD_ii,truth,binop,ex_k,c2,c3,hm]
          · subst c1
            simp [cDrawIf,exs,stepEx,ev_k,stepEv,tst_k,stepTst,cmpD,eqD_ii,truth,binop,ex_k,c2,hm]
        · simp [cDrawIf,exs,stepEx,ev_k,stepEv,tst_k,stepTst,cmpD,eqD_ii,truth,binop,ex_k,c1,hm]
      have e5 : cDraw.drop 5 = cDrawIf::cDraw.drop 6:=rfl
      rw [e5,exs_cons e4]
      have m1 : ∀ x : Int,mulOk x 7919 = true:=fun x=>mulOk_r (by decide) (by decide)
      have m2 : ∀ x : Int,mulOk x 104729 = true:=fun x=>mulOk_r (by decide) (by decide)
      have m3 : ∀ x : Int,mulOk x 1299709 = true:=fun x=>mulOk_r (by decide) (by decide)
      have m4 : ∀ x : Int,mulOk x 48271 = true:=fun x=>mulOk_r (by decide) (by decide)
      have m5 : ∀ x y : Int,mulOk x (y % 9973 + 1) = true:=fun x y=>mulOk_r (by omega) (by omega)
      have m6 : ∀ x : Int,mulOk x 69621 = true:=fun x=>mulOk_r (by decide) (by decide)
      have m7 : ∀ x : Int,mulOk x 40692 = true:=fun x=>mulOk_r (by decide) (by decide)
      unfold drawF
      simp [cDraw,exs,stepEx,ev_k,stepEv,setT,binop,hm,m1,m2,m3,m4,m5,m6,m7]
  exact call_of (q + 30) hf rfl rfl body
theorem draw_eq {fns : List Fn} {f : Nat} (hf : fns[f]? = some fDraw) {N : Nat} (hN : 1 ≤ N) {st : Store} {ns : List Int} {k j many : Int} (hn : ns.length ≤ 63) (hj : 0 ≤ j) (hj2 : j < 100000) (hm : 0 < many) :
    callD fns N f [.lst (ns.map D.int),.int k,.int j,.int many] st = some (.int (drawV ns k j many),st):=by
  have:=draw_eq' hf 0 (N - 1) st ns k j many hn hj hj2 hm
  rwa [show N - 1 + 1 = N by omega] at this
end M
end
section
set_option linter.all false
set_option maxRecDepth 10000
set_option maxHeartbeats 4000000
namespace M
open PySem (Str)
noncomputable abbrev CF:=Nat→List D→Store→Option (D × Store)
section
variable {c : CF} {n : Nat} {τ : Sl} {st : Store} {it elt : E} {sr : List (Option Nat)} {s : Src} {rest : Sl} {α : Type}
theorem gc_comp (xs : List α) (f g : α→D) (hsrc : src (runK c n) τ st it = some (s,st)) (hat : ∀ i,s.at st i = some (xs.map f)[i]?) (hsz : s.size st = xs.length) (hin : inner sr τ = none::rest) (hlim : xs.length < 1000000) (hg : ∀ x ∈ xs,noLoc (g x) = true)
    (he : ∀ x ∈ xs,(runK c n).ev (some (f x)::rest) st elt = some (g x,st)) : (runK c (n + 2)).ev τ st (.gc (.comp (.var 0) it none elt sr)) = some (.lst (xs.map g),st):=by
  have h:=comp_map (r:=runK c n) (τ:=τ) (S:=st) (S':=st) (it:=it) (elt:=elt) (sr:=sr) (s:=s) (rest:=rest) (ds:=xs.map f) (es:=xs.map g) hsrc hat (by rw [hsz,List.length_map]) hin (by rw [List.length_map,List.length_map]) (by rw [List.length_map]; unfold lim; omega) (fun i d e h1 h2=>by
    rw [List.getElem?_map] at h1 h2
    cases hx : xs[i]? with
    | none=>rw [hx] at h1; cases h1
    | some x =>
      rw [hx] at h1 h2
      cases h1
      cases h2
      exact he x (List.mem_of_getElem? hx))
  have e1 : (runK c (n + 1)).ev τ st (.comp (.var 0) it none elt sr) = some (.loc st.length,st++[.lst true (xs.map g)]):=h
  show ((runK c (n + 1)).ev τ st (.comp (.var 0) it none elt sr)).map (fun p=>gcD st p) = _
  rw [e1]
  show some (gcD st (.loc st.length,st++[.lst true (xs.map g)])) = _
  rw [gc_new (noLocs_map hg)]
theorem gc_ev {d : D} {e : E} (h : (runK c n).ev τ st e = some (d,st)) (hd : noLoc d = true) : (runK c (n + 1)).ev τ st (.gc e) = some (d,st):=by
  show ((runK c n).ev τ st e).map (fun p=>gcD st p) = _
  rw [h]
  show some (gcD st (d,st)) = _
  rw [gc_same hd]
theorem gc_evL {ds : List D} {e : E} (h : (runK c n).ev τ st e = some (.loc st.length,st++[.lst true ds])) (hd : noLocs ds = true) : (runK c (n + 1)).ev τ st (.gc e) = some (.lst ds,st):=by
  show ((runK c n).ev τ st e).map (fun p=>gcD st p) = _
  rw [h]
  show some (gcD st _) = _
  rw [gc_new hd]
theorem gc_lit {es : List E} {ds : List D} (h : evs ((runK c n).ev τ) es st = some (ds,st)) (hl : ds.length ≤ 1000) (hd : noLocs ds = true) : (runK c (n + 2)).ev τ st (.gc (.lst es)) = some (.lst ds,st):=by
  refine gc_evL ?_ hd
  show (evs ((runK c n).ev τ) es st).bind _ = _
  rw [h]
  simp only [Option.bind_some]
  rw [if_neg (by unfold lim; omega)]
  rfl
theorem gc_add {a b : E} {x y : D} {xs ys : List D} (ha : (runK c n).ev τ st a = some (x,st)) (hb : (runK c n).ev τ st b = some (y,st)) (hx : x = .lst xs) (hy : y = .lst ys) (hl : xs.length + ys.length ≤ 1000000) (hd : noLocs (xs++ys) = true) : (runK c (n + 2)).ev τ st (.gc (.bin .Add a b)) = some (.lst (xs++ys),st):=by
  subst hx hy
  refine gc_evL ?_ hd
  show ((runK c n).ev τ st a).bind _ = _
  rw [ha]
  simp only [Option.bind_some,hb,binop,seqAt]
  rw [if_neg (by unfold lim; omega)]
  rfl
theorem src_lst {i : Nat} {ds : List D} (h : τ[i]? = some (some (.lst ds))) : src (runK c (n + 1)) τ st (.var i) = some (.lst (.lst ds),st):=by
  simp only [src,ev_k,stepEv,h,Option.bind_some,seqAt,Option.map_some]
theorem src_tup {i : Nat} {ds : List D} (h : τ[i]? = some (some (.tup ds))) : src (runK c (n + 1)) τ st (.var i) = some (.tup ds,st):=by
  simp only [src,ev_k,stepEv,h,Option.bind_some]
end
theorem at_lst' {ds : List D} (S : Store) (i : Nat) : (Src.lst (.lst ds)).at S i = some ds[i]?:=rfl
theorem size_lst' {ds : List D} (S : Store) : (Src.lst (.lst ds)).size S = ds.length:=rfl
noncomputable def cSame (f : Nat) : List S:=[
  .ite (.isi (.var 1) [.tup,.lst] true) [.ite (.or (.not (.isi (.var 0) [.tup,.lst] true)) (.cmp .NotEq (.bcall .len [(.var 0)]) (.bcall .len [(.var 1)]))) [.ret (.lit (.bl false))] [],.set (.var 2) (.bcall .all [(.gc (.comp (.var 0) (.rng1 (.bcall .len [(.var 1)])) none (.gc (.call f [(.idx (.var 1) (.var 0)),(.idx (.var 2) (.var 0))])) [none,some 0,some 1]))]),.ret (.and (.var 2) (.cmp .Eq (.isi (.var 0) [.tup] false) (.isi (.var 1) [.tup] false)))] [],
  .set (.var 2) (.cmp .Eq (.isi (.var 0) [.int] false) (.isi (.var 1) [.int] false)),
  .set (.var 2) (.and (.var 2) (.cmp .Eq (.isi (.var 0) [.bl] false) (.isi (.var 1) [.bl] false))),
  .ret (.and (.var 2) (.and (.cmp .Eq (.isi (.var 0) [.str] false) (.isi (.var 1) [.str] false)) (.cmp .Eq (.var 0) (.var 1))))]
noncomputable def fSame (f : Nat) : Fn:=⟨2,3,cSame f⟩
inductive Dp : Nat→D→Prop
  | non {k} : Dp k .non
  | bl {k b} : Dp k (.bl b)
  | int {k i} : Dp k (.int i)
  | str {k s} : Dp k (.str s)
  | tup {k ds} (h : ∀ d ∈ ds,Dp k d) (hl : ds.length < 100000) : Dp (k + 1) (.tup ds)
  | lst {k ds} (h : ∀ d ∈ ds,Dp k d) (hl : ds.length < 100000) : Dp (k + 1) (.lst ds)
theorem Dp.noLoc {k : Nat} {d : D} (h : Dp k d) : noLoc d = true:=by
  induction h with
  | tup h hl ih=>rw [noLoc_tup]; exact noLocs_of ih
  | lst h hl ih=>rw [noLoc_lst]; exact noLocs_of ih
  | _=>rfl
section
variable {fns : List Fn} {f : Nat}
theorem same_scal (hf : fns[f]? = some (fSame f)) (q m : Nat) (st : Store) (d : D) (t : Ty) (ht : ∀ S,tyName S d = some t) (h1 : tyIs .tup t = false) (h2 : tyIs .lst t = false) (hi : Bool) (e1 : tyIs .int t = hi) (hb : Bool) (e2 : tyIs .bl t = hb) (hs : Bool) (e3 : tyIs .str t = hs) (he : ∀ S,eqD S d d = some true) : callD fns (m + 1) f [d,d] st = some (.bl true,st):=by
  refine call_of (q + 20) hf rfl rfl ?_
  show exs (stepEx (rn fns m (q + 20))) (cSame f) [some d,some d,none] st = _
  unfold cSame
  rw [exs_cons (τ':=[some d,some d,none]) (s':=st) (by
    refine (stepEx_ite_f (st':=st) ?_).trans rfl
    simp only [tst_k,stepTst,ev_k,stepEv,List.getElem?_cons_succ,List.getElem?_cons_zero,Option.bind_some,ht,Option.map_some,List.any_cons,List.any_nil,h1,h2,truth,Bool.or_self])]
  rw [exs_cons (τ':=[some d,some d,some (.bl true)]) (s':=st) (by
    simp only [stepEx,ev_k,stepEv,List.getElem?_cons_succ,List.getElem?_cons_zero,Option.bind_some,ht,Option.map_some,List.any_cons,List.any_nil,e1,cmpD,Bool.or_false,eqD_bb,beq_self_eq_true]
    rfl)]
  rw [exs_cons (τ':=[some d,some d,some (.bl true)]) (s':=st) (by
    simp only [stepEx,ev_k,stepEv,List.getElem?_cons_succ,List.getElem?_cons_zero,Option.bind_some,ht,Option.map_some,List.any_cons,List.any_nil,e2,cmpD,Bool.or_false,eqD_bb,beq_self_eq_true]
    rfl)]
  refine exs_ret ?_
  simp only [stepEx,ev_k,stepEv,List.getElem?_cons_succ,List.getElem?_cons_zero,Option.bind_some,ht,Option.map_some,List.any_cons,List.any_nil,e3,cmpD,Bool.or_false,eqD_bb,beq_self_eq_true,he]
theorem same_row (hf : fns[f]? = some (fSame f)) (q m : Nat) (st : Store) (d : D) (ds : List D) (k : Bool) (hd : (d = .tup ds∧k = true)∨(d = .lst ds∧k = false)) (hl : ds.length < 100000) (ih : ∀ x ∈ ds,callD fns m f [x,x] st = some (.bl true,st)) : callD fns (m + 1) f [d,d] st = some (.bl true,st):=by
  have ty : ∀ S,∃ t,tyName S d = some t∧(tyIs .tup t || tyIs .lst t) = true∧tyIs .tup t = k:=fun S=>by
    rcases hd with ⟨rfl,rfl⟩ | ⟨rfl,rfl⟩
    · exact ⟨.tup,rfl,rfl,rfl⟩
    · exact ⟨.lst,rfl,rfl,rfl⟩
  have ln : ∀ S,bLen S [d] = some (.int ds.length,S):=fun S=>by
    rcases hd with ⟨rfl,rfl⟩ | ⟨rfl,rfl⟩
    · rfl
    · rfl
  have ix : ∀ S (i : Nat) x,ds[i]? = some x→idxD S d (.int ((0 : Int) + i)) = some x:=fun S i x hx=>by
    have hi:=(List.getElem?_eq_some_iff.mp hx).1
    have h1 : (0 : Int) ≤ 0 + i:=by omega
    have h2 : (0 : Int) + i < ds.length:=by omega
    have h3 : ((0 : Int) + i).toNat = i:=by omega
    rcases hd with ⟨rfl,rfl⟩ | ⟨rfl,rfl⟩
    · simp only [idxD,atI,ixN,h1,h2,h3,if_true,Option.bind_some,hx]
    · simp only [idxD,seqAt,atI,ixN,h1,h2,h3,if_true,Option.bind_some,hx]
  obtain ⟨t,t1,t2,t3⟩:=ty st
  have hb : big (ds.length : Int) = false:=by unfold big; simp; omega
  have cm : ∀ n : Nat,(rn fns m (n + 10)).ev [some d,some d,none] st (.gc (.comp (.var 0) (.rng1 (.bcall .len [(.var 1)])) none (.gc (.call f [(.idx (.var 1) (.var 0)),(.idx (.var 2) (.var 0))])) [none,some 0,some 1])) = some (.lst ((List.range ds.length).map fun _=>.bl true),st):=fun n=>by
    refine gc_comp (n:=n + 8) (s:=.rng 0 ds.length) (rest:=[some d,some d]) (List.range ds.length) (fun (i : Nat)=>.int ((0 : Int) + i)) (fun _=>.bl true) ?_ (fun i=>at_rng 0 _ i) (by simp [Src.size]) rfl (by simpa using (by omega : ds.length < 1000000)) (fun _ _=>rfl) fun i hi=>?_
    · simp only [src,ev_k,stepEv,evs,List.getElem?_cons_succ,List.getElem?_cons_zero,Option.bind_some,bfun,ln,hb,Bool.false_eq_true,if_false]
      rfl
    · have hi : i < ds.length:=by simpa using hi
      have hx : ds[i]? = some ds[i]:=by simp
      refine gc_ev (n:=n + 7) ?_ rfl
      simp only [ev_k,stepEv,evs,List.getElem?_cons_succ,List.getElem?_cons_zero,Option.bind_some,ix _ i _ hx,Option.map_some,call_k]
      exact ih _ (List.getElem_mem hi)
  refine call_of (q + 20) hf rfl rfl ?_
  show exs (stepEx (rn fns m (q + 20))) (cSame f) [some d,some d,none] st = _
  unfold cSame
  refine exs_ret ?_
  refine (stepEx_ite_t (st':=st) ?_).trans ?_
  · simp only [tst_k,stepTst,ev_k,stepEv,List.getElem?_cons_succ,List.getElem?_cons_zero,Option.bind_some,t1,Option.map_some,List.any_cons,List.any_nil,Bool.or_false,t2,truth]
  rw [ex_k]
  rw [exs_cons (τ':=[some d,some d,none]) (s':=st) (by
    refine (stepEx_ite_f (st':=st) ?_).trans rfl
    simp only [tst_k,stepTst,ev_k,stepEv,evs,List.getElem?_cons_succ,List.getElem?_cons_zero,Option.bind_some,t1,Option.map_some,List.any_cons,List.any_nil,Bool.or_false,t2,truth,Bool.not_true,Bool.false_eq_true,if_false,bfun,ln,cmpD,neD,eqD_ii,beq_self_eq_true])]
  rw [exs_cons (τ':=[some d,some d,some (.bl true)]) (s':=st) (by
    have al : bAll st [.lst ((List.range ds.length).map fun _=>.bl true)] = some (.bl true,st):=by
      have : ∀ n : Nat,asBools ((List.range n).map fun _=>D.bl true) = some (List.replicate n true):=fun n=>by
        rw [List.map_const',List.length_range]
        induction n with
        | zero=>rfl
        | succ n ih=>rw [List.replicate_succ,List.replicate_succ,asBools,ih]; rfl
      simp only [bAll,seqAt,Option.bind_some,this,Option.map_some]
      simp
    simp only [stepEx]
    rw [ev_k]
    simp only [stepEv,evs,cm,Option.bind_some,bfun,al]
    rfl)]
  refine exs_ret ?_
  simp only [stepEx,ev_k,stepEv,List.getElem?_cons_succ,List.getElem?_cons_zero,Option.bind_some,t1,Option.map_some,List.any_cons,List.any_nil,cmpD,Bool.or_false,eqD_bb,beq_self_eq_true]
theorem same_eq (hf : fns[f]? = some (fSame f)) {k : Nat} {d : D} (h : Dp k d) : ∀ (m : Nat) (st : Store),k < m→callD fns m f [d,d] st = some (.bl true,st):=by
  induction h with
  | non=>intro m st hm; obtain ⟨m,rfl⟩ : ∃ j,m = j + 1:=⟨m - 1,by omega⟩; exact same_scal hf 0 m st .non .non (fun _=>rfl) rfl rfl _ rfl _ rfl _ rfl fun _=>eqD_nn _
  | @bl _ b=>intro m st hm; obtain ⟨m,rfl⟩ : ∃ j,m = j + 1:=⟨m - 1,by omega⟩; exact same_scal hf 0 m st (.bl b) .bl (fun _=>rfl) rfl rfl _ rfl _ rfl _ rfl fun _=>by rw [eqD_bb]; simp
  | @int _ b=>intro m st hm; obtain ⟨m,rfl⟩ : ∃ j,m = j + 1:=⟨m - 1,by omega⟩; exact same_scal hf 0 m st (.int b) .int (fun _=>rfl) rfl rfl _ rfl _ rfl _ rfl fun _=>by rw [eqD_ii]; simp
  | @str _ b=>intro m st hm; obtain ⟨m,rfl⟩ : ∃ j,m = j + 1:=⟨m - 1,by omega⟩; exact same_scal hf 0 m st (.str b) .str (fun _=>rfl) rfl rfl _ rfl _ rfl _ rfl fun _=>by rw [eqD_ss]; simp
  | @tup k ds h hl ih=>intro m st hm; obtain ⟨m,rfl⟩ : ∃ j,m = j + 1:=⟨m - 1,by omega⟩; exact same_row hf 0 m st _ ds true (.inl ⟨rfl,rfl⟩) hl fun x hx=>ih x hx m st (by omega)
  | @lst k ds h hl ih=>intro m st hm; obtain ⟨m,rfl⟩ : ∃ j,m = j + 1:=⟨m - 1,by omega⟩; exact same_row hf 0 m st _ ds false (.inr ⟨rfl,rfl⟩) hl fun x hx=>ih x hx m st (by omega)
end
end M
end
section
set_option linter.all false
set_option maxRecDepth 10000
set_option maxHeartbeats 4000000
namespace M
open PySem (Str)
noncomputable def mk (cs : List Nat) : Str:=⟨cs.toArray⟩
noncomputable def sgn (c : Nat) : D:=.str ⟨#[c]⟩
theorem mk_cps (cs : List Nat) : (mk cs).cps.toList = cs:=rfl
theorem mk_len (cs : List Nat) : (mk cs).length = cs.length:=by simp [mk,Str.length]
theorem mk_app (a b : List Nat) : mk a++mk b = mk (a++b):=by
  show (⟨a.toArray++b.toArray⟩ : Str) = ⟨(a++b).toArray⟩
  simp
theorem mk_inj {a b : List Nat} (h : mk a = mk b) : a = b:=by
  have:=congrArg (fun z : Str=>z.cps.toList) h
  exact this
theorem mk_beq (a b : List Nat) : (mk a == mk b) = (a == b):=by
  rw [Bool.eq_iff_iff,beq_iff_eq,beq_iff_eq]
  exact ⟨mk_inj,fun h=>by rw [h]⟩
theorem mk_ascii {cs : List Nat} (h : ∀ c ∈ cs,c < 128) : (mk cs).cps.all (· < 128) = true:=by
  simp only [mk]
  rw [← Array.all_toList]
  simpa using h
theorem oneOf_sgn (c : Nat) : oneOf ⟨#[c]⟩ = some c:=rfl
theorem asStrs_map : ∀ zs : List Str,asStrs (zs.map D.str) = some zs
  | []=>rfl
  | z::r=>by
    show (asStrs (r.map D.str)).map (z::·) = _
    rw [asStrs_map r]
    rfl
theorem at_str (z : Str) (S : Store) (i : Nat) : (Src.str z).at S i = some ((z.cps.toList.map sgn)[i]?):=rfl
theorem at0 {α : Type} (a : α) (r : List α) : atI (a::r) 0 = some a:=by simp [atI,ixN]
noncomputable def natD (n : Nat) : List Nat:=(Nat.toDigits 10 n).map Char.toNat
theorem str_nat {i : Int} (h : 0 ≤ i) : Str.ofString (toString i) = mk (natD i.toNat):=by
  obtain ⟨m,rfl⟩:=Int.eq_ofNat_of_zero_le h
  have e:=PySem.W.KIN.signs_num m
  have : ∀ a b : Str,a.cps.toList = b.cps.toList→a = b:=fun a b q=>by
    obtain ⟨x⟩:=a
    obtain ⟨y⟩:=b
    have : x = y:=Array.toList_inj.mp q
    rw [this]
  exact this _ _ e
theorem natD_step {n : Nat} (h : 10 ≤ n) : natD n = natD (n / 10)++[n % 10 + 48]:=by
  have hm : n % 10 < 10:=Nat.mod_lt n (by decide)
  have t : Nat.toDigits 10 (n / 10)++Nat.toDigits 10 (n % 10) = Nat.toDigits 10 (10 * (n / 10) + n % 10):=Nat.toDigits_append_toDigits (by decide) (by omega) hm
  rw [Nat.div_add_mod] at t
  unfold natD
  rw [← t,List.map_append,Nat.toDigits_of_lt_base hm]
  congr 1
  have : ∀ d : Nat,d < 10→(Nat.digitChar d).toNat = d + 48:=by decide
  simp [this _ hm]
theorem natD_small {n : Nat} (h : n < 10) : natD n = [n + 48]:=by
  unfold natD
  rw [Nat.toDigits_of_lt_base h]
  have : ∀ d : Nat,d < 10→(Nat.digitChar d).toNat = d + 48:=by decide
  simp [this _ h]
theorem natD_fig (n : Nat) : (natD n).all isFig = true:=by
  induction n using Nat.strongRecOn with
  | _ n ih =>
    by_cases h : n < 10
    · rw [natD_small h]
      simp [isFig]
      omega
    · rw [natD_step (by omega),List.all_append,ih (n / 10) (by omega)]
      have : n % 10 < 10:=Nat.mod_lt n (by decide)
      simp [isFig]
      omega
theorem natD_val (n : Nat) : figVal (natD n) = n:=PySem.W.KIN.val_back n
theorem natD_ne (n : Nat) : natD n ≠ []:=by
  by_cases h : n < 10
  · rw [natD_small h]; simp
  · rw [natD_step (by omega)]; simp
theorem natD_head : ∀ {n : Nat},0 < n→(natD n).head? ≠ some 48:=by
  intro n
  induction n using Nat.strongRecOn with
  | _ n ih =>
    intro h0
    by_cases h : n < 10
    · rw [natD_small h]
      simp
      omega
    · rw [natD_step (by omega)]
      have:=ih (n / 10) (by omega) (by omega)
      cases hd : natD (n / 10) with
      | nil=>exact absurd hd (natD_ne _)
      | cons a r =>
        rw [hd] at this
        simpa using this
theorem natD_lt (n : Nat) : ∀ c ∈ natD n,c < 128:=fun c hc=>by
  have:=List.all_eq_true.mp (natD_fig n) c hc
  unfold isFig at this
  simp only [Bool.and_eq_true,decide_eq_true_eq] at this
  omega
noncomputable def cFig : List S:=[
  .ret (.and (.cmp .NotEq (.var 0) (.lit (.str (PySem.Str.ofString "")))) (.bcall .all [(.gc (.comp (.var 0) (.var 0) none (.cmp .In (.var 0) (.glo (PySem.Str.ofString "FIGURES") (.str (PySem.Str.ofString "0123456789")))) [none]))]))]
noncomputable def fFig : Fn:=⟨1,1,cFig⟩
noncomputable def cNum (g : Nat) : List S:=[
  .ite (.not (.gc (.call g [(.var 0)]))) [.ret (.lit .non)] [],
  .ite (.and (.cmp .Eq (.idx (.var 0) (.lit (.int 0))) (.lit (.str (PySem.Str.ofString "0")))) (.cmp .NotEq (.var 0) (.lit (.str (PySem.Str.ofString "0"))))) [.ret (.lit .non)] [],
  .ret (.bcall .int [(.var 0)])]
noncomputable def fNum (g : Nat) : Fn:=⟨1,1,cNum g⟩
theorem t0 : PySem.Str.ofString "0" = mk [48]:=by decide +kernel
theorem te : PySem.Str.ofString "" = mk []:=by decide +kernel
noncomputable def digs : List Nat:=[48,49,50,51,52,53,54,55,56,57]
theorem td : PySem.Str.ofString "0123456789" = mk digs:=by decide +kernel
theorem fig_in (c : Nat) : decide (c ∈ digs) = isFig c:=by
  unfold isFig
  rw [Bool.eq_iff_iff]
  simp only [digs,List.mem_cons,List.not_mem_nil,or_false,decide_eq_true_eq,Bool.and_eq_true]
  omega
noncomputable def numV (cs : List Nat) : D:=if cs ≠ []∧cs.all isFig = true∧¬ (cs.head? = some 48∧cs ≠ [48]) then .int (figVal cs : Nat) else .non
theorem figs_ok {fns : List Fn} {g : Nat} (hg : fns[g]? = some fFig) (q m : Nat) (st : Store) (cs : List Nat) (ha : ∀ c ∈ cs,c < 128) (hl : cs.length < 1000) : callD fns (m + 1) g [.str (mk cs)] st = some (.bl (!cs.isEmpty && cs.all isFig),st):=by
  refine call_of (q + 20) (F:=fFig) hg rfl rfl ?_
  show exs (stepEx (rn fns m (q + 20))) cFig [some (.str (mk cs))] st = _
  unfold cFig
  refine exs_ret ?_
  have e1 : ∀ n : Nat,(rn fns m (n + 6)).ev [some (.str (mk cs))] st (.gc (.comp (.var 0) (.var 0) none (.cmp .In (.var 0) (.glo (PySem.Str.ofString "FIGURES") (.str (PySem.Str.ofString "0123456789")))) [none])) = some (.lst (cs.map fun c=>D.bl (isFig c)),st):=fun n=>by
    refine gc_comp (n:=n + 4) (s:=.str (mk cs)) (rest:=[]) cs sgn (fun c=>D.bl (isFig c)) ?_ (fun i=>at_str _ _ i) (by simp [Src.size,mk_cps]) rfl (by omega) (fun _ _=>rfl) fun c hc=>?_
    · simp only [src,ev_k,stepEv,List.getElem?_cons_zero,Option.bind_some,mk_ascii ha,if_true]
    · simp only [ev_k,stepEv,List.getElem?_cons_zero,Option.bind_some,cmpD,inD,sgn,oneOf_sgn,Option.map_some,td]
      show some (D.bl (decide (c ∈ digs)),st) = _
      rw [fig_in]
  have hb : ∀ l : List Nat,asBools (l.map fun c=>D.bl (isFig c)) = some (l.map isFig):=fun l=>by
    induction l with
    | nil=>rfl
    | cons a r ih=>simp [asBools,ih]
  have al : ∀ S,bAll S [.lst (cs.map fun c=>D.bl (isFig c))] = some (.bl (cs.all isFig),S):=fun S=>by
    simp only [bAll,seqAt,Option.bind_some,hb,Option.map_some,List.all_map]
    rfl
  have hne : (mk cs == mk []) = cs.isEmpty:=by
    rw [mk_beq]
    cases cs <;> rfl
  cases he : cs.isEmpty with
  | true =>
    simp only [stepEx,ev_k,stepEv,List.getElem?_cons_zero,Option.bind_some,te,cmpD,neD,eqD_ss,hne,he,Option.map_some,Bool.not_true,Bool.false_and]
  | false =>
    simp only [stepEx]
    rw [ev_k]
    have e3 : ∀ n : Nat,(rn fns m (n + 3)).ev [some (.str (mk cs))] st (.cmp .NotEq (.var 0) (.lit (.str (PySem.Str.ofString "")))) = some (.bl true,st):=fun n=>by
      simp only [ev_k,stepEv,List.getElem?_cons_zero,Option.bind_some,te,cmpD,neD,eqD_ss,hne,he,Option.map_some,Bool.not_false]
    simp only [stepEv,e3,Option.bind_some]
    rw [ev_k]
    simp only [stepEv,evs,e1,Option.bind_some,bfun,al,Option.map_some,Bool.not_false,Bool.true_and]
theorem number_ok {fns : List Fn} {g f : Nat} (hg : fns[g]? = some fFig) (hf : fns[f]? = some (fNum g)) (q m : Nat) (st : Store) (cs : List Nat) (ha : ∀ c ∈ cs,c < 128) (hl : cs.length < 600) : callD fns (m + 2) f [.str (mk cs)] st = some (numV cs,st):=by
  have e0:=figs_ok hg 0 m st cs ha (by omega)
  refine call_of (q + 20) (F:=fNum g) hf rfl rfl ?_
  show exs (stepEx (rn fns (m + 1) (q + 20))) (cNum g) [some (.str (mk cs))] st = _
  have t1 : ∀ n : Nat,(rn fns (m + 1) (n + 8)).tst [some (.str (mk cs))] st (.not (.gc (.call g [(.var 0)]))) = some (!(!cs.isEmpty && cs.all isFig),st):=fun n=>by
    simp only [tst_k,stepTst,ev_k,stepEv,evs,List.getElem?_cons_zero,Option.bind_some,call_k,e0,Option.map_some,gc_bl,truth]
  unfold cNum numV
  by_cases h1 : cs ≠ []∧cs.all isFig = true
  · have hb : (!(!cs.isEmpty && cs.all isFig)) = false:=by
      rw [h1.2,Bool.and_true]
      simpa using h1.1
    rw [exs_cons (τ':=[some (.str (mk cs))]) (s':=st) (by refine (stepEx_ite_f (st':=st) ?_).trans rfl; rw [t1,hb])]
    cases cs with
    | nil=>exact absurd rfl h1.1
    | cons c cr =>
      have hli : ¬ lim < (mk (c::cr)).length:=by rw [mk_len]; unfold lim; omega
      have hix : ∀ S,idxD S (.str (mk (c::cr))) (.int 0) = some (.str (mk [c])):=fun S=>by
        simp only [idxD,hli,if_false,mk_cps,at0]
        rfl
      have hm : (mk [c] == mk [48]) = (c == 48):=by rw [mk_beq]; simp [Bool.eq_iff_iff]
      have t2 : ∀ n : Nat,(rn fns (m + 1) (n + 8)).tst [some (.str (mk (c::cr)))] st (.and (.cmp .Eq (.idx (.var 0) (.lit (.int 0))) (.lit (.str (PySem.Str.ofString "0")))) (.cmp .NotEq (.var 0) (.lit (.str (PySem.Str.ofString "0"))))) = some ((c == 48) && !((c::cr) == [48]),st):=fun n=>by
        simp only [tst_k,stepTst,ev_k,stepEv,List.getElem?_cons_zero,Option.bind_some,hix,Option.map_some,cmpD,neD,eqD_ss,t0,hm,mk_beq]
        cases (c == 48) <;> rfl
      by_cases h2 : (c::cr).head? = some 48∧(c::cr) ≠ [48]
      · rw [if_neg (by rintro ⟨_,_,h⟩; exact h h2)]
        have hc : c = 48:=by simpa using h2.1
        have h3 : ((c == 48) && !((c::cr) == [48])) = true:=by
          rw [Bool.and_eq_true]
          exact ⟨by simpa using hc,by rw [Bool.not_eq_true',beq_eq_false_iff_ne]; exact h2.2⟩
        refine exs_ret ((stepEx_ite_t (st':=st) (by rw [t2,h3])).trans ?_)
        rw [ex_k]
        exact exs_ret rfl
      · rw [if_pos ⟨h1.1,h1.2,h2⟩]
        have hint : ∀ S,bInt S [.str (mk (c::cr))] = some (.int (figVal (c::cr) : Nat),S):=fun S=>by
          simp only [bInt,mk_cps,mk_len]
          rw [if_pos]
          rw [h1.2]
          simpa using (show cr.length + 1 ≤ 640 by simp at hl; omega)
        have h3 : ((c == 48) && !((c::cr) == [48])) = false:=by
          cases hx : ((c == 48) && !((c::cr) == [48])) with
          | false=>rfl
          | true =>
            rw [Bool.and_eq_true] at hx
            exact absurd ⟨by simpa using hx.1,by have:=hx.2; rw [Bool.not_eq_true',beq_eq_false_iff_ne] at this; exact this⟩ h2
        rw [exs_cons (τ':=[some (.str (mk (c::cr)))]) (s':=st) (by refine (stepEx_ite_f (st':=st) ?_).trans rfl; rw [t2,h3])]
        refine exs_ret ?_
        simp only [stepEx,ev_k,stepEv,evs,List.getElem?_cons_zero,Option.bind_some,bfun,hint,Option.map_some]
  · rw [if_neg (fun h=>h1 ⟨h.1,h.2.1⟩)]
    have hb : (!(!cs.isEmpty && cs.all isFig)) = true:=by
      by_cases q : cs = []
      · subst q; rfl
      · have : ¬ cs.all isFig = true:=fun z=>h1 ⟨q,z⟩
        simp only [Bool.not_eq_true] at this
        rw [this,Bool.and_false]
        rfl
    refine exs_ret ((stepEx_ite_t (st':=st) (by rw [t1,hb])).trans ?_)
    rw [ex_k]
    exact exs_ret rfl
theorem numV_nat (n : Nat) : numV (natD n) = .int n:=by
  unfold numV
  rw [if_pos,natD_val]
  refine ⟨natD_ne n,natD_fig n,fun h=>?_⟩
  by_cases h0 : n = 0
  · subst h0
    exact h.2 (natD_small (by decide))
  · exact natD_head (by omega) h.1
noncomputable def joinC (c : Nat) : List (List Nat)→List Nat
  | []=>[]
  | [p]=>p
  | p::q::r=>p++c::joinC c (q::r)
theorem join_mk (c : Nat) : ∀ ps : List (List Nat),Str.join (mk [c]) (ps.map mk) = mk (joinC c ps)
  | []=>rfl
  | [p]=>rfl
  | p::q::r=>by
    have ih:=join_mk c (q::r)
    show mk p++mk [c]++Str.join (mk [c]) ((q::r).map mk) = _
    rw [ih,mk_app,mk_app]
    show mk (p++[c]++joinC c (q::r)) = mk (p++c::joinC c (q::r))
    simp
theorem joinC_cons (c x : Nat) (p : List Nat) (r : List (List Nat)) : joinC c ((x::p)::r) = x::joinC c (p::r):=by
  cases r <;> rfl
theorem splitC_join (c : Nat) : ∀ (p : List Nat) (r : List (List Nat)),c ∉ p→(∀ q ∈ r,c ∉ q)→splitC c (joinC c (p::r)) = p::r
  | [],[],_,_=>rfl
  | [],q::r,_,h=>by
    have ih:=splitC_join c q r (h q List.mem_cons_self) fun z hz=>h z (List.mem_cons_of_mem _ hz)
    show splitC c (c::joinC c (q::r)) = _
    unfold splitC
    rw [if_pos rfl,ih]
  | x::p,r,hp,h=>by
    have ih:=splitC_join c p r (fun z=>hp (List.mem_cons_of_mem _ z)) h
    rw [joinC_cons]
    unfold splitC
    rw [if_neg (fun z=>hp (by rw [z]; exact List.mem_cons_self)),ih]
theorem joinC_len (c B : Nat) : ∀ ps : List (List Nat),(∀ p ∈ ps,p.length ≤ B)→(joinC c ps).length ≤ ps.length * (B + 1)
  | [],_=>by simp [joinC]
  | [p],h=>by have:=h p List.mem_cons_self; simp [joinC]; omega
  | p::q::r,h=>by
    have ih:=joinC_len c B (q::r) fun z hz=>h z (List.mem_cons_of_mem _ hz)
    have:=h p List.mem_cons_self
    show (p++c::joinC c (q::r)).length ≤ _
    simp only [List.length_append,List.length_cons] at ih ⊢
    have e : (r.length + 1 + 1) * (B + 1) = (r.length + 1) * (B + 1) + (B + 1):=Nat.succ_mul _ _
    omega
theorem joinC_mem (c : Nat) : ∀ (ps : List (List Nat)) (x : Nat),x ∈ joinC c ps→x = c∨∃ p ∈ ps,x ∈ p
  | [],x,h=>by simp [joinC] at h
  | [p],x,h=>.inr ⟨p,List.mem_cons_self,h⟩
  | p::q::r,x,h=>by
    have h : x ∈ p++c::joinC c (q::r):=h
    rcases List.mem_append.mp h with z | z
    · exact .inr ⟨p,List.mem_cons_self,z⟩
    · rcases List.mem_cons.mp z with y | y
      · exact .inl y
      · rcases joinC_mem c (q::r) x y with w | ⟨p',hp,w⟩
        · exact .inl w
        · exact .inr ⟨p',List.mem_cons_of_mem _ hp,w⟩
theorem natD_len : ∀ (k n : Nat),n < 10 ^ (k + 1)→(natD n).length ≤ k + 1
  | 0,n,h=>by rw [natD_small (by simpa using h)]; simp
  | k + 1,n,h=>by
    by_cases h1 : n < 10
    · rw [natD_small h1]; simp
    · have : n / 10 < 10 ^ (k + 1):=by
        rw [Nat.div_lt_iff_lt_mul (by decide)]
        rw [Nat.pow_succ] at h
        exact h
      have ih:=natD_len k (n / 10) this
      rw [natD_step (by omega),List.length_append,List.length_singleton]
      omega
noncomputable def Sm (i : Int) : Prop:=0 ≤ i∧i < 10 ^ 45
theorem Sm.log {i : Int} (h : Sm i) : i.natAbs.log2 < 1920:=by
  obtain ⟨h0,h1⟩:=h
  have h2 : i.natAbs < 10 ^ 45:=by omega
  by_cases hz : i.natAbs = 0
  · rw [hz]; decide
  · exact (Nat.log2_lt hz).mpr (Nat.lt_of_lt_of_le h2 (Nat.le_trans (show 10 ^ 45 ≤ 2 ^ 150 by decide) (Nat.pow_le_pow_right (by decide) (by decide))))
theorem Sm.len {i : Int} (h : Sm i) : (natD i.toNat).length ≤ 45:=natD_len 44 i.toNat (by have:=h.1; have:=h.2; omega)
theorem Sm.str {i : Int} (h : Sm i) (S : Store) : bStr S [.int i] = some (.str (mk (natD i.toNat)),S):=by
  simp only [bStr]
  rw [if_pos h.log,str_nat h.1]
theorem fig_ne {c n : Nat} (hc : isFig c = false) : c ∉ natD n:=fun h=>by
  have:=List.all_eq_true.mp (natD_fig n) c h
  rw [hc] at this
  cases this
theorem join_list {S : Store} {d : D} {c : Nat} {ps : List (List Nat)} (hl : seqAt S d = some (ps.map fun p=>D.str (mk p))) (hb : ∀ p ∈ ps,p.length ≤ 1000) (hn : ps.length ≤ 1000) : mJoin S (.str (mk [c])) [d] = some (.str (mk (joinC c ps)),S):=by
  have e1 : asStrs (ps.map fun p=>D.str (mk p)) = some (ps.map mk):=by
    have:=asStrs_map (ps.map mk)
    rw [List.map_map] at this
    exact this
  simp only [mJoin,hl,e1,Option.bind_some,join_mk]
  rw [if_pos]
  have hs : ∀ qs : List (List Nat),(∀ p ∈ qs,p.length ≤ 1000)→(List.map (fun x : Str=>x.length) (qs.map mk)).sum ≤ qs.length * 1000:=fun qs=>by
    induction qs with
    | nil=>simp
    | cons q r ih =>
      intro h
      have h1:=h q List.mem_cons_self
      have h2:=ih fun z hz=>h z (List.mem_cons_of_mem _ hz)
      simp only [List.map_cons,List.sum_cons,List.length_cons,mk_len]
      have : (r.length + 1) * 1000 = r.length * 1000 + 1000:=Nat.succ_mul _ _
      omega
  have:=hs ps hb
  rw [List.length_map,mk_len,List.length_singleton]
  unfold lim
  have : ps.length * 1000 ≤ 1000 * 1000:=Nat.mul_le_mul_right _ hn
  omega
theorem split_list {S : Store} {c : Nat} {p : List Nat} {r : List (List Nat)} (hp : c ∉ p) (hr : ∀ q ∈ r,c ∉ q) (hl : (joinC c (p::r)).length < 1000000) : mSplit S (.str (mk (joinC c (p::r)))) [.str (mk [c])] = some (.loc S.length,S++[.lst true ((p::r).map fun q=>D.str (mk q))]):=by
  show (if (mk (joinC c (p::r))).length < 1000000 then some (alloc S (.lst true ((splitC c (joinC c (p::r))).map fun p=>D.str ⟨p.toArray⟩))) else none) = _
  rw [mk_len,if_pos hl,splitC_join c p r hp hr]
  rfl
end M
end
section
set_option linter.all false
set_option maxRecDepth 10000
set_option maxHeartbeats 4000000
namespace M
open PySem (Str)
noncomputable def tD (p : List Nat) : D:=.str (mk p)
noncomputable def iD (k : Nat) : D:=.int (k : Int)
noncomputable def nSm (k : Nat) : Prop:=k < 10 ^ 45
theorem nSm.sm {k : Nat} (h : nSm k) : Sm (k : Int):=⟨by omega,by unfold nSm at h; omega⟩
theorem nSm.str {k : Nat} (h : nSm k) (S : Store) : bStr S [iD k] = some (tD (natD k),S):=h.sm.str S
theorem nSm.len {k : Nat} (h : nSm k) : (natD k).length ≤ 45:=h.sm.len
theorem xBlank : PySem.Str.ofString " " = mk [32]:=by decide +kernel
theorem flats_map {α : Type} (g : α→D) (n : Nat) (h : ∀ x,flat n (g x) = true) : ∀ xs : List α,flats n (xs.map g) = true
  | []=>rfl
  | x::r=>by rw [List.map_cons,flats,h,flats_map g n h r]; rfl
theorem cutIx_nat (n d v : Nat) : cutIx n d (some (v : Int)) = min v n:=by
  show (if (v : Int) < 0 then ((v : Int) + (n : Int)).toNat else min (v : Int).toNat n) = _
  rw [if_neg (by omega)]
  rfl
theorem cut_drop {α : Type} (xs : List α) (n : Nat) (h : n ≤ xs.length) : cut xs (some (n : Int)) none = xs.drop n:=by
  unfold cut
  rw [cutIx_nat,Nat.min_eq_left h]
  exact List.take_of_length_le (by rw [List.length_drop]; exact Nat.le_refl _)
theorem gc_sli {c : CF} {n : Nat} {τ : Sl} {st : Store} {a : E} {lo hi : Option E} {xs : List D} {l h : Option Int} (ha : (runK c n).ev τ st a = some (.lst xs,st)) (hlo : part (runK c n) τ st lo = some (l,st)) (hhi : part (runK c n) τ st hi = some (h,st)) (hd : noLocs (cut xs l h) = true) : (runK c (n + 2)).ev τ st (.gc (.sli a lo hi)) = some (.lst (cut xs l h),st):=by
  refine gc_evL ?_ hd
  show ((runK c n).ev τ st a).bind _ = _
  rw [ha]
  simp only [Option.bind_some,hlo,hhi,sliD,seqAt,Option.map_some]
  rfl
theorem nl_tD (ws : List (List Nat)) : noLocs (ws.map tD) = true:=noLocs_map fun _ _=>rfl
theorem nl_iD (ws : List Nat) : noLocs (ws.map iD) = true:=noLocs_map fun _ _=>rfl
noncomputable def cNums (g : Nat) : List S:=[
  .set (.var 1) (.gc (.comp (.var 0) (.var 0) none (.gc (.call g [(.var 0)])) [none])),
  .ite (.cmp .In (.lit .non) (.var 1)) [.rais] [],
  .ret (.var 1)]
noncomputable def fNums (g : Nat) : Fn:=⟨1,2,cNums g⟩
theorem nums_ok {fns : List Fn} {i g f : Nat} (hi : fns[i]? = some fFig) (hg : fns[g]? = some (fNum i)) (hf : fns[f]? = some (fNums g)) (m : Nat) (st : Store) (ks : List Nat) (hk : ∀ k ∈ ks,nSm k) (hl : ks.length < 1000) : callD fns (m + 3) f [.lst ((ks.map natD).map tD)] st = some (.lst (ks.map iD),st):=by
  refine call_of (0 + 20) (F:=fNums g) hf rfl rfl ?_
  show exs (stepEx (rn fns (m + 2) (0 + 20))) (cNums g) [some (.lst ((ks.map natD).map tD)),none] st = _
  unfold cNums
  have e1 : ∀ n : Nat,(rn fns (m + 2) (n + 10)).ev [some (.lst ((ks.map natD).map tD)),none] st (.gc (.comp (.var 0) (.var 0) none (.gc (.call g [(.var 0)])) [none])) = some (.lst (ks.map iD),st):=fun n=>by
    refine gc_comp (n:=n + 8) (s:=.lst (.lst ((ks.map natD).map tD))) (rest:=[]) ks (fun k=>tD (natD k)) iD (src_lst rfl) (fun i=>by rw [at_lst',List.map_map]; rfl) (by rw [size_lst']; simp) rfl (by omega) (fun _ _=>rfl) fun k hk'=>?_
    refine gc_ev (n:=n + 7) ?_ rfl
    have:=number_ok hi hg 0 m st (natD k) (natD_lt k) (by have:=(hk k hk').len; omega)
    rw [numV_nat] at this
    simp only [ev_k,stepEv,evs,List.getElem?_cons_zero,Option.bind_some,call_k]
    exact this
  rw [exs_cons (τ':=[some (.lst ((ks.map natD).map tD)),some (.lst (ks.map iD))]) (s':=st) (by simp only [stepEx,e1,Option.bind_some]; rfl)]
  have i1 : inD st .non (.lst (ks.map iD)) = some false:=by
    simp only [inD,seqAt,Option.bind_some]
    rw [flats_map iD 9 (fun _=>rfl),show flat 9 D.non = true from rfl]
    simp only [Bool.and_self,if_true,List.any_map]
    congr 1
    rw [List.any_eq_false]
    intro x _
    exact Bool.false_ne_true
  rw [exs_cons (τ':=[some (.lst ((ks.map natD).map tD)),some (.lst (ks.map iD))]) (s':=st) (by
    refine (stepEx_ite_f (st':=st) ?_).trans rfl
    simp only [tst_k,stepTst,ev_k,stepEv,List.getElem?_cons_succ,List.getElem?_cons_zero,Option.bind_some,cmpD,i1,Option.map_some])]
  refine exs_ret ?_
  simp only [stepEx,ev_k,stepEv,List.getElem?_cons_succ,List.getElem?_cons_zero,Option.map_some]
theorem src_idx {c : CF} {n : Nat} {τ : Sl} {st : Store} {a b : E} {ds : List D} (h : (runK c n).ev τ st (.idx a b) = some (.tup ds,st)) : src (runK c n) τ st (.idx a b) = some (.tup ds,st):=by
  show ((runK c n).ev τ st (.idx a b)).bind _ = _
  rw [h]
  rfl
theorem comp_str {c : CF} {n : Nat} {τ : Sl} {st : Store} {it : E} (ps : List (D × List Nat)) (hit : src (runK c (n + 4)) τ st it = some (.tup (ps.map Prod.fst),st)) (hs : ∀ p ∈ ps,∀ S,bStr S [p.1] = some (tD p.2,S)) (hl : ps.length < 1000) :
    (runK c (n + 6)).ev τ st (.gc (.comp (.var 0) it none (.bcall .str [(.var 0)]) [none])) = some (.lst ((ps.map Prod.snd).map tD),st):=by
  have:=gc_comp (n:=n + 4) (τ:=τ) (st:=st) (it:=it) (elt:=.bcall .str [(.var 0)]) (sr:=[none]) (rest:=[]) (s:=.tup (ps.map Prod.fst)) ps Prod.fst (fun p=>tD p.2) hit (fun i=>rfl) (by simp [Src.size]) rfl (by omega) (fun _ _=>rfl) (fun p hp=>by
    simp only [ev_k,stepEv,evs,List.getElem?_cons_zero,Option.bind_some,bfun,hs p hp])
  rw [this,List.map_map]
  rfl
theorem seq_mid (A r : Store) (w : Bool) (ds : List D) : seqAt (A++.lst w ds::r) (.loc A.length) = some ds:=by simp [seqAt,listAt]
theorem wat_mid (A r : Store) (ds : List D) : wlistAt (A++.lst true ds::r) A.length = some ds:=by simp [wlistAt]
theorem set_mid (A r : Store) (c c' : Cell) : (A++c::r).set A.length c' = A++c'::r:=by
  rw [List.set_append_right _ _ (Nat.le_refl _)]; simp
theorem seq_end (A : Store) (w : Bool) (ds : List D) : seqAt (A++[.lst w ds]) (.loc A.length) = some ds:=seq_mid A [] w ds
noncomputable def sD (ns : List Int) : D:=.lst (ns.map D.int)
theorem drw {fns : List Fn} {g N : Nat} {ns : List Int} (hg : fns[g]? = some fDraw) (hN : 1 ≤ N) (hn : ns.length ≤ 63) (st : Store) (k j many : Int) (hj : 0 ≤ j) (hj2 : j < 100000) (hm : 0 < many) : callD fns N g [sD ns,.int k,.int j,.int many] st = some (.int (drawV ns k j many),st):=draw_eq hg hN hn hj hj2 hm
theorem gc_call {c : CF} {n f : Nat} {τ : Sl} {st : Store} {es : List E} {ds : List D} {d : D} (hes : evs ((runK c (n + 1)).ev τ) es st = some (ds,st)) (h : c f ds st = some (d,st)) (hd : noLoc d = true) : (runK c (n + 3)).ev τ st (.gc (.call f es)) = some (d,st):=by
  refine gc_ev (n:=n + 2) ?_ hd
  show (evs ((runK c (n + 1)).ev τ) es st).bind _ = _
  rw [hes]
  exact h
theorem pA (S : Store) (a b : Int) : binop S .Add (.int a) (.int b) = some (.int (a + b),S):=rfl
theorem getD_mem {α : Type} (xs : List α) (z : α) (i : Int) (h0 : 0 ≤ i) (h1 : i < xs.length) : xs.getD i.toNat z ∈ xs:=by
  have h2 : i.toNat < xs.length:=by omega
  rw [List.getD_eq_getElem?_getD,List.getElem?_eq_getElem h2]
  exact List.getElem_mem h2
theorem ix_lst {α : Type} (g : α→D) (xs : List α) (z : α) (i : Int) (h0 : 0 ≤ i) (h1 : i < xs.length) (S : Store) : idxD S (.lst (xs.map g)) (.int i) = some (g (xs.getD i.toNat z)):=by
  have h2 : i.toNat < xs.length:=by omega
  simp only [idxD,seqAt,Option.bind_some,atI,ixN,h0,if_true,List.length_map,h1,List.getElem?_map]
  rw [List.getD_eq_getElem?_getD,List.getElem?_eq_getElem h2]
  rfl
noncomputable def gSize (ns : List Int) (k j : Int) : Int:=[2,10,1000,10 ^ 10].getD (drawV ns k j 4).toNat 2
noncomputable def greatV (ns : List Int) (k j : Int) : Int:=if drawV ns k (j + 2) 6 = 0 then drawV ns k (j + 1) (gSize ns k j) * 10 ^ 30 + drawV ns k (j + 3) (10 ^ 10) else drawV ns k (j + 1) (gSize ns k j)
theorem gSize_ok (ns : List Int) (k j : Int) : 0 < gSize ns k j∧gSize ns k j ≤ 10 ^ 10:=by
  have a0:=drawV_lo ns k j (many:=4) (by omega)
  have a1:=drawV_hi ns k j (many:=4) (by omega)
  have:=getD_mem ([2,10,1000,10 ^ 10] : List Int) 2 (drawV ns k j 4) a0 a1
  unfold gSize
  simp only [List.mem_cons,List.not_mem_nil,or_false] at this
  omega
theorem great_sm (ns : List Int) (k j : Int) : Sm (greatV ns k j):=by
  obtain ⟨g0,g1⟩:=gSize_ok ns k j
  have a0:=drawV_lo ns k (j + 1) g0
  have a1:=drawV_hi ns k (j + 1) g0
  have b0:=drawV_lo ns k (j + 3) (many:=10 ^ 10) (by omega)
  have b1:=drawV_hi ns k (j + 3) (many:=10 ^ 10) (by omega)
  unfold greatV Sm
  split <;> omega
noncomputable def greatN (ns : List Int) (k j : Int) : Nat:=(greatV ns k j).toNat
theorem great_n (ns : List Int) (k j : Int) : nSm (greatN ns k j)∧D.int (greatV ns k j) = iD (greatN ns k j):=by
  have h:=great_sm ns k j
  refine ⟨by unfold nSm greatN; have:=h.1; have:=h.2; omega,?_⟩
  show D.int _ = D.int (((greatV ns k j).toNat : Nat) : Int)
  rw [Int.toNat_of_nonneg h.1]
noncomputable def cGreat (g : Nat) : List S:=[
  .set (.var 3) (.idx (.gc (.lst [(.lit (.int 2)),(.lit (.int 10)),(.lit (.int 1000)),(.bin .Pow (.lit (.int 10)) (.lit (.int 10)))])) (.gc (.call g [(.var 0),(.var 1),(.var 2),(.lit (.int 4))]))),
  .set (.var 4) (.gc (.call g [(.var 0),(.var 1),(.bin .Add (.var 2) (.lit (.int 1))),(.var 3)])),
  .ite (.cmp .Eq (.gc (.call g [(.var 0),(.var 1),(.bin .Add (.var 2) (.lit (.int 2))),(.lit (.int 6))])) (.lit (.int 0))) [.ret (.bin .Add (.bin .Mult (.var 4) (.bin .Pow (.lit (.int 10)) (.lit (.int 30)))) (.gc (.call g [(.var 0),(.var 1),(.bin .Add (.var 2) (.lit (.int 3))),(.bin .Pow (.lit (.int 10)) (.lit (.int 10)))])))] [],
  .ret (.var 4)]
noncomputable def fGreat (g : Nat) : Fn:=⟨3,5,cGreat g⟩
theorem great_ok {fns : List Fn} {g f : Nat} (hg : fns[g]? = some fDraw) (hf : fns[f]? = some (fGreat g)) {m : Nat} (hm : 2 ≤ m) (st : Store) (ns : List Int) (k j : Int) (hn : ns.length ≤ 63) (hj : 0 ≤ j) (hj2 : j < 900) : callD fns m f [sD ns,.int k,.int j] st = some (iD (greatN ns k j),st):=by
  rw [← (great_n ns k j).2]
  obtain ⟨m,rfl⟩ : ∃ q,m = q + 1:=⟨m - 1,by omega⟩
  have dr:=fun j' many h1 h2 h3=>drw hg (N:=m) (by omega) hn st k j' many h1 h2 h3
  have a0:=drawV_lo ns k j (many:=4) (by omega)
  have a1:=drawV_hi ns k j (many:=4) (by omega)
  obtain ⟨g0,g1⟩:=gSize_ok ns k j
  have m0:=drawV_lo ns k (j + 1) g0
  have m1:=drawV_hi ns k (j + 1) g0
  have p10 : ∀ S,binop S .Pow (.int 10) (.int 10) = some (.int (10 ^ 10),S):=fun S=>rfl
  have p30 : ∀ S,binop S .Pow (.int 10) (.int 30) = some (.int (10 ^ 30),S):=fun S=>rfl
  refine call_of (0 + 30) (F:=fGreat g) hf rfl rfl ?_
  show exs (stepEx (rn fns m (0 + 30))) (cGreat g) [some (sD ns),some (.int k),some (.int j),none,none] st = _
  unfold cGreat
  rw [exs_cons (τ':=[some (sD ns),some (.int k),some (.int j),some (.int (gSize ns k j)),none]) (s':=st) (by
    have l1 : ∀ n : Nat,(rn fns m (n + 8)).ev [some (sD ns),some (.int k),some (.int j),none,none] st (.gc (.lst [(.lit (.int 2)),(.lit (.int 10)),(.lit (.int 1000)),(.bin .Pow (.lit (.int 10)) (.lit (.int 10)))])) = some (.lst (([2,10,1000,10 ^ 10] : List Int).map D.int),st):=fun n=>by
      refine gc_lit (n:=n + 6) ?_ (by simp) (noLocs_map fun _ _=>rfl)
      simp only [evs,ev_k,stepEv,Option.bind_some,p10]
      rfl
    have c1 : ∀ n : Nat,(rn fns m (n + 8)).ev [some (sD ns),some (.int k),some (.int j),none,none] st (.gc (.call g [(.var 0),(.var 1),(.var 2),(.lit (.int 4))])) = some (.int (drawV ns k j 4),st):=fun n=>by
      simp only [ev_k,stepEv,evs,List.getElem?_cons_succ,List.getElem?_cons_zero,Option.bind_some,call_k,dr j 4 hj (by omega) (by omega),Option.map_some,gc_int]
    simp only [stepEx]
    rw [ev_k]
    simp only [stepEv,l1,c1,Option.bind_some,ix_lst D.int ([2,10,1000,10 ^ 10] : List Int) 2 _ a0 a1,Option.map_some]
    rfl)]
  rw [exs_cons (τ':=[some (sD ns),some (.int k),some (.int j),some (.int (gSize ns k j)),some (.int (drawV ns k (j + 1) (gSize ns k j)))]) (s':=st) (by
    simp only [stepEx,ev_k,stepEv,evs,List.getElem?_cons_succ,List.getElem?_cons_zero,Option.bind_some,pA,call_k,dr (j + 1) _ (by omega) (by omega) g0,Option.map_some,gc_int]
    rfl)]
  generalize hM : drawV ns k (j + 1) (gSize ns k j) = M at m0 m1
  have t2 : ∀ n : Nat,(rn fns m (n + 8)).tst [some (sD ns),some (.int k),some (.int j),some (.int (gSize ns k j)),some (.int M)] st (.cmp .Eq (.gc (.call g [(.var 0),(.var 1),(.bin .Add (.var 2) (.lit (.int 2))),(.lit (.int 6))])) (.lit (.int 0))) = some ((drawV ns k (j + 2) 6 == 0),st):=fun n=>by
    simp only [tst_k,stepTst,ev_k,stepEv,evs,List.getElem?_cons_succ,List.getElem?_cons_zero,Option.bind_some,pA,call_k,dr (j + 2) 6 (by omega) (by omega) (by omega),Option.map_some,gc_int,cmpD,eqD_ii]
  unfold greatV
  rw [hM]
  by_cases h : drawV ns k (j + 2) 6 = 0
  · rw [if_pos h]
    refine exs_ret ((stepEx_ite_t (st':=st) (by rw [t2,h]; rfl)).trans ?_)
    rw [ex_k]
    refine exs_ret ?_
    have p3 : ∀ S,binop S .Mult (.int M) (.int (10 ^ 30)) = some (.int (M * 10 ^ 30),S):=fun S=>by
      have mo:=mulOk_l (a:=M) (b:=10 ^ 30) (by omega) (by omega)
      simp only [binop]
      rw [if_pos mo]
    simp only [stepEx,ev_k,stepEv,evs,List.getElem?_cons_succ,List.getElem?_cons_zero,Option.bind_some,p30,p10,p3,pA,call_k,dr (j + 3) (10 ^ 10) (by omega) (by omega) (by omega),Option.map_some,gc_int]
  · rw [if_neg h]
    have hb : (drawV ns k (j + 2) 6 == 0) = false:=by simpa using h
    rw [exs_cons (τ':=[some (sD ns),some (.int k),some (.int j),some (.int (gSize ns k j)),some (.int M)]) (s':=st) (by refine (stepEx_ite_f (st':=st) ?_).trans rfl; rw [t2,hb])]
    exact exs_ret rfl
end M
end
section
set_option linter.all false
set_option maxRecDepth 10000
set_option maxHeartbeats 4000000
namespace K07
open M
noncomputable def b_all_figures : List M.S:=[
  .ret (.and (.cmp .NotEq (.var 0) (.lit (.str (PySem.Str.ofString "")))) (.bcall .all [(.gc (.comp (.var 0) (.var 0) none (.cmp .In (.var 0) (.glo (PySem.Str.ofString "FIGURES") (.str (PySem.Str.ofString "0123456789")))) [none]))]))]
noncomputable def f_all_figures : M.Fn:=⟨1,1,b_all_figures⟩
noncomputable def b_number : List M.S:=[
  .ite (.not (.gc (.call 0 [(.var 0)]))) [.ret (.lit .non)] [],
  .ite (.and (.cmp .Eq (.idx (.var 0) (.lit (.int 0))) (.lit (.str (PySem.Str.ofString "0")))) (.cmp .NotEq (.var 0) (.lit (.str (PySem.Str.ofString "0"))))) [.ret (.lit .non)] [],
  .ret (.bcall .int [(.var 0)])]
noncomputable def f_number : M.Fn:=⟨1,1,b_number⟩
noncomputable def b_read_numbers : List M.S:=[
  .set (.var 1) (.gc (.comp (.var 0) (.var 0) none (.gc (.call 1 [(.var 0)])) [none])),
  .ite (.cmp .In (.lit .non) (.var 1)) [.rais] [],
  .ret (.var 1)]
noncomputable def f_read_numbers : M.Fn:=⟨1,2,b_read_numbers⟩
noncomputable def b_shown_steps : List M.S:=[
  .ite (.not (.var 0)) [.ret (.glo (PySem.Str.ofString "NO_STEPS") (.str (PySem.Str.ofString "-")))] [],
  .ret (.meth (.lit (.str (PySem.Str.ofString ""))) .join [(.gc (.comp (.var 0) (.var 0) none (.bcall .str [(.var 0)]) [none]))])]
noncomputable def f_shown_steps : M.Fn:=⟨1,1,b_shown_steps⟩
noncomputable def b_shown_cell : List M.S:=[
  .set (.var 1) (.idx (.var 0) (.lit (.int 0))),
  .set (.var 2) (.idx (.var 0) (.lit (.int 1))),
  .ret (.fstr [(.fmt (.var 1)),(.lit (.str (PySem.Str.ofString ","))),(.fmt (.var 2))])]
noncomputable def f_shown_cell : M.Fn:=⟨1,3,b_shown_cell⟩
noncomputable def b_shown : List M.S:=[
  .ite (.cmp .Eq (.idx (.var 0) (.lit (.int 0))) (.lit (.str (PySem.Str.ofString "vein")))) [.ret (.meth (.lit (.str (PySem.Str.ofString " "))) .join [(.gc (.bin .Add (.gc (.lst [(.lit (.str (PySem.Str.ofString "vein"))),(.call 3 [(.idx (.var 0) (.lit (.int 1)))])])) (.gc (.comp (.var 0) (.idx (.var 0) (.lit (.int 2))) none (.gc (.call 4 [(.var 0)])) [none]))))])] [],
  .ret (.meth (.lit (.str (PySem.Str.ofString " "))) .join [(.gc (.comp (.var 0) (.var 0) none (.bcall .str [(.var 0)]) [none]))])]
noncomputable def f_shown : M.Fn:=⟨1,1,b_shown⟩
noncomputable def b_read_steps : List M.S:=[
  .ite (.cmp .Eq (.var 0) (.glo (PySem.Str.ofString "NO_STEPS") (.str (PySem.Str.ofString "-")))) [.ret (.tup [])] [],
  .ite (.not (.gc (.call 0 [(.var 0)]))) [.rais] [],
  .ret (.bcall .tuple [(.gc (.comp (.var 0) (.var 0) none (.bcall .int [(.var 0)]) [none]))])]
noncomputable def f_read_steps : M.Fn:=⟨1,1,b_read_steps⟩
noncomputable def b_read_cell : List M.S:=[
  .set (.var 1) (.gc (.call 2 [(.gc (.meth (.var 0) .split [(.lit (.str (PySem.Str.ofString ",")))]))])),
  .ite (.cmp .NotEq (.bcall .len [(.var 1)]) (.lit (.int 2))) [.rais] [],
  .ret (.bcall .tuple [(.var 1)])]
noncomputable def f_read_cell : M.Fn:=⟨1,2,b_read_cell⟩
noncomputable def b_read_vein : List M.S:=[
  .ite (.cmp .Lt (.bcall .len [(.var 0)]) (.lit (.int 2))) [.rais] [],
  .ret (.tup [(.lit (.str (PySem.Str.ofString "vein"))),(.gc (.call 6 [(.idx (.var 0) (.lit (.int 0)))])),(.bcall .tuple [(.gc (.comp (.var 0) (.gc (.sli (.var 0) (some (.lit (.int 1))) none)) none (.gc (.call 7 [(.var 0)])) [none]))])])]
noncomputable def f_read_vein : M.Fn:=⟨1,1,b_read_vein⟩
noncomputable def b_read_fact : List M.S:=[
  .set (.var 1) (.gc (.meth (.var 0) .split [(.lit (.str (PySem.Str.ofString " ")))])),
  .set (.var 2) (.idx (.var 1) (.lit (.int 0))),
  .ite (.cmp .Eq (.var 2) (.lit (.str (PySem.Str.ofString "vein")))) [.ret (.call 8 [(.gc (.sli (.var 1) (some (.lit (.int 1))) none))])] [],
  .ite (.gin true (PySem.Str.ofString "ASKS") [(PySem.Str.ofString "join"),(PySem.Str.ofString "stake"),(PySem.Str.ofString "work"),(PySem.Str.ofString "sell"),(PySem.Str.ofString "part"),(PySem.Str.ofString "give"),(PySem.Str.ofString "dig"),(PySem.Str.ofString "pay")] (.var 2)) [.rais] [],
  .set (.var 3) (.gc (.call 2 [(.gc (.sli (.var 1) (some (.lit (.int 1))) none))])),
  .ite (.cmp .NotEq (.bcall .len [(.var 3)]) (.bcall .len [(.gidx (PySem.Str.ofString "ASKS") [(PySem.Str.ofString "join"),(PySem.Str.ofString "stake"),(PySem.Str.ofString "work"),(PySem.Str.ofString "sell"),(PySem.Str.ofString "part"),(PySem.Str.ofString "give"),(PySem.Str.ofString "dig"),(PySem.Str.ofString "pay")] [(.tup [(.str (PySem.Str.ofString "day")),(.str (PySem.Str.ofString "day")),(.str (PySem.Str.ofString "below"))]),(.tup [(.str (PySem.Str.ofString "folk")),(.str (PySem.Str.ofString "x")),(.str (PySem.Str.ofString "y")),(.str (PySem.Str.ofString "x")),(.str (PySem.Str.ofString "y"))]),(.tup [(.str (PySem.Str.ofString "day"))]),(.tup [(.str (PySem.Str.ofString "day")),(.str (PySem.Str.ofString "folk"))]),(.tup [(.str (PySem.Str.ofString "day")),(.str (PySem.Str.ofString "side")),(.str (PySem.Str.ofString "line")),(.str (PySem.Str.ofString "folk"))]),(.tup [(.str (PySem.Str.ofString "day"))]),(.tup [(.str (PySem.Str.ofString "folk")),(.str (PySem.Str.ofString "x")),(.str (PySem.Str.ofString "y")),(.str (PySem.Str.ofString "x")),(.str (PySem.Str.ofString "y")),(.str (PySem.Str.ofString "floor")),(.str (PySem.Str.ofString "coins"))]),(.tup [(.str (PySem.Str.ofString "folk")),(.str (PySem.Str.ofString "folk")),(.str (PySem.Str.ofString "coins"))])] (.var 2))])) [.rais] [],
  .ret (.bin .Add (.tup [(.var 2)]) (.bcall .tuple [(.var 3)]))]
noncomputable def f_read_fact : M.Fn:=⟨1,4,b_read_fact⟩
noncomputable def b_law_draw : List M.S:=[
  .set (.var 4) (.lit (.int 0)),
  .set (.var 5) (.lit (.int 1)),
  .ite (.cmp .Gt (.bcall .len [(.var 0)]) (.lit (.int 0))) [.set (.var 4) (.idx (.var 0) (.bin .Mod (.var 1) (.bcall .len [(.var 0)]))),.set (.var 5) (.bin .FloorDiv (.var 1) (.bcall .len [(.var 0)]))] [],
  .set (.var 6) (.var 4),
  .forr (.var 7) (.rng1 (.var 2)) [.set (.var 6) (.bin .FloorDiv (.var 6) (.bin .Pow (.lit (.int 10)) (.lit (.int 10))))],
  .ite (.and (.cmp .Eq (.var 5) (.lit (.int 0))) (.and (.cmp .GtE (.var 4) (.bin .Pow (.lit (.int 10)) (.lit (.int 18)))) (.cmp .Gt (.var 6) (.lit (.int 0))))) [.ret (.bin .Mod (.bin .Mod (.var 6) (.bin .Pow (.lit (.int 10)) (.lit (.int 10)))) (.var 3))] [],
  .set (.var 8) (.bin .Mod (.bin .Add (.bin .Add (.bin .Add (.bin .Mult (.var 4) (.lit (.int 7919))) (.bin .Mult (.var 1) (.lit (.int 104729)))) (.bin .Mult (.var 2) (.lit (.int 1299709)))) (.lit (.int 31))) (.lit (.int 1000000007))),
  .set (.var 9) (.bin .Mod (.bin .Add (.bin .Mult (.var 8) (.lit (.int 48271))) (.bin .FloorDiv (.var 4) (.lit (.int 1009)))) (.lit (.int 998244353))),
  .set (.var 9) (.bin .Mod (.bin .Add (.bin .Mult (.var 9) (.bin .Add (.bin .Mod (.var 8) (.lit (.int 9973))) (.lit (.int 1)))) (.var 2)) (.lit (.int 1000000009))),
  .ret (.bin .Mod (.bin .Mod (.bin .Add (.bin .Add (.bin .Mult (.var 8) (.lit (.int 69621))) (.bin .Mult (.var 9) (.lit (.int 40692)))) (.bin .FloorDiv (.var 9) (.lit (.int 1013)))) (.lit (.int 2147483647))) (.var 3))]
noncomputable def f_law_draw : M.Fn:=⟨4,10,b_law_draw⟩
noncomputable def b_law_same : List M.S:=[
  .ite (.isi (.var 1) [.tup,.lst] true) [.ite (.or (.not (.isi (.var 0) [.tup,.lst] true)) (.cmp .NotEq (.bcall .len [(.var 0)]) (.bcall .len [(.var 1)]))) [.ret (.lit (.bl false))] [],.set (.var 2) (.bcall .all [(.gc (.comp (.var 0) (.rng1 (.bcall .len [(.var 1)])) none (.gc (.call 11 [(.idx (.var 1) (.var 0)),(.idx (.var 2) (.var 0))])) [none,some 0,some 1]))]),.ret (.and (.var 2) (.cmp .Eq (.isi (.var 0) [.tup] false) (.isi (.var 1) [.tup] false)))] [],
  .set (.var 2) (.cmp .Eq (.isi (.var 0) [.int] false) (.isi (.var 1) [.int] false)),
  .set (.var 2) (.and (.var 2) (.cmp .Eq (.isi (.var 0) [.bl] false) (.isi (.var 1) [.bl] false))),
  .ret (.and (.var 2) (.and (.cmp .Eq (.isi (.var 0) [.str] false) (.isi (.var 1) [.str] false)) (.cmp .Eq (.var 0) (.var 1))))]
noncomputable def f_law_same : M.Fn:=⟨2,3,b_law_same⟩
noncomputable def b_law_size : List M.S:=[
  .set (.var 2) (.bin .Add (.lit (.int 1)) (.gc (.call 10 [(.var 0),(.var 1),(.lit (.int 0)),(.lit (.int 6))]))),
  .set (.var 3) (.bin .Add (.lit (.int 1)) (.gc (.call 10 [(.var 0),(.var 1),(.lit (.int 1)),(.lit (.int 6))]))),
  .set (.var 4) (.gc (.call 10 [(.var 0),(.var 1),(.lit (.int 2)),(.lit (.int 6))])),
  .set (.var 5) (.gc (.lst [(.tup [(.lit (.int 24)),(.bin .Add (.lit (.int 1)) (.bin .FloorDiv (.var 3) (.lit (.int 3)))),(.bin .FloorDiv (.var 4) (.lit (.int 2)))]),(.tup [(.bin .Add (.lit (.int 1)) (.bin .FloorDiv (.var 2) (.lit (.int 3)))),(.lit (.int 24)),(.bin .FloorDiv (.var 4) (.lit (.int 2)))])])),
  .set (.var 5) (.gc (.bin .Add (.var 5) (.gc (.lst [(.tup [(.bin .Add (.lit (.int 1)) (.bin .FloorDiv (.var 2) (.lit (.int 3)))),(.bin .Add (.lit (.int 1)) (.bin .FloorDiv (.var 3) (.lit (.int 3)))),(.lit (.int 12))]),(.tup [(.var 2),(.var 3),(.var 4)])])))),
  .ret (.idx (.var 5) (.bcall .min [(.lit (.int 3)),(.gc (.call 10 [(.var 0),(.var 1),(.lit (.int 3)),(.lit (.int 12))]))]))]
noncomputable def f_law_size : M.Fn:=⟨2,6,b_law_size⟩
noncomputable def b_law_rect : List M.S:=[
  .set (.var 5) (.gc (.bcall .sorted [(.gc (.lst [(.call 10 [(.var 0),(.var 1),(.var 2),(.var 3)]),(.call 10 [(.var 0),(.var 1),(.bin .Add (.var 2) (.lit (.int 1))),(.var 3)])]))])),
  .set (.var 6) (.gc (.bcall .sorted [(.gc (.lst [(.call 10 [(.var 0),(.var 1),(.bin .Add (.var 2) (.lit (.int 2))),(.var 4)]),(.call 10 [(.var 0),(.var 1),(.bin .Add (.var 2) (.lit (.int 3))),(.var 4)])]))])),
  .ret (.tup [(.idx (.var 5) (.lit (.int 0))),(.idx (.var 6) (.lit (.int 0))),(.idx (.var 5) (.lit (.int 1))),(.idx (.var 6) (.lit (.int 1)))])]
noncomputable def f_law_rect : M.Fn:=⟨5,7,b_law_rect⟩
noncomputable def b_law_steps : List M.S:=[
  .ret (.bcall .tuple [(.gc (.comp (.var 0) (.rng1 (.var 3)) none (.idx (.gc (.lst [(.lit (.int 0)),(.lit (.int 1)),(.lit (.int 2)),(.lit (.int 3)),(.lit (.int 4)),(.lit (.int 0)),(.lit (.int 0))])) (.gc (.call 10 [(.var 1),(.var 2),(.bin .Add (.var 3) (.var 0)),(.lit (.int 7))]))) [none,some 0,some 1,some 2]))])]
noncomputable def f_law_steps : M.Fn:=⟨4,4,b_law_steps⟩
noncomputable def b_law_outs : List M.S:=[
  .set (.var 4) (.bin .Mult (.idx (.var 3) (.lit (.int 0))) (.idx (.var 3) (.lit (.int 1)))),
  .set (.var 5) (.gc (.call 10 [(.var 0),(.var 1),(.var 2),(.var 4)])),
  .set (.var 6) (.bin .Add (.lit (.int 1)) (.gc (.call 10 [(.var 0),(.var 1),(.bin .Add (.var 2) (.lit (.int 1))),(.var 4)]))),
  .set (.var 7) (.lst []),
  .forr (.var 8) (.rng1 (.bin .Add (.lit (.int 1)) (.gc (.call 10 [(.var 0),(.var 1),(.bin .Add (.var 2) (.lit (.int 3))),(.idx (.gc (.lst [(.lit (.int 16)),(.lit (.int 4)),(.lit (.int 4)),(.lit (.int 4))])) (.gc (.call 10 [(.var 0),(.var 1),(.bin .Add (.var 2) (.lit (.int 2))),(.lit (.int 4))])))])))) [.set (.var 9) (.bin .Mod (.bin .Add (.var 5) (.bin .Mult (.var 8) (.var 6))) (.var 4)),.ite (.cmp .NotIn (.tup [(.bin .Mod (.var 9) (.idx (.var 3) (.lit (.int 0)))),(.bin .FloorDiv (.var 9) (.idx (.var 3) (.lit (.int 0))))]) (.var 7)) [.expr (.meth (.var 7) .append [(.tup [(.bin .Mod (.var 9) (.idx (.var 3) (.lit (.int 0)))),(.bin .FloorDiv (.var 9) (.idx (.var 3) (.lit (.int 0))))])])] []],
  .ret (.bcall .tuple [(.var 7)])]
noncomputable def f_law_outs : M.Fn:=⟨4,10,b_law_outs⟩
noncomputable def b_law_who : List M.S:=[
  .ret (.bin .Add (.lit (.int 1)) (.gc (.call 10 [(.var 0),(.var 1),(.var 2),(.idx (.gc (.lst [(.lit (.int 40)),(.lit (.int 4)),(.lit (.int 4)),(.lit (.int 4)),(.lit (.int 4)),(.lit (.int 4))])) (.gc (.call 10 [(.var 0),(.var 1),(.bin .Add (.var 2) (.lit (.int 1))),(.lit (.int 6))])))])))]
noncomputable def f_law_who : M.Fn:=⟨3,3,b_law_who⟩
noncomputable def b_law_pick : List M.S:=[
  .ite (.or (.cmp .Eq (.bcall .len [(.var 3)]) (.lit (.int 0))) (.cmp .Eq (.gc (.call 10 [(.var 0),(.var 1),(.var 2),(.lit (.int 14))])) (.lit (.int 0)))) [.ret (.bin .Add (.lit (.int 1)) (.gc (.call 10 [(.var 0),(.var 1),(.bin .Add (.var 2) (.lit (.int 1))),(.lit (.int 400))])))] [],
  .ret (.idx (.var 3) (.gc (.call 10 [(.var 0),(.var 1),(.bin .Add (.var 2) (.lit (.int 1))),(.bcall .len [(.var 3)])])))]
noncomputable def f_law_pick : M.Fn:=⟨4,4,b_law_pick⟩
noncomputable def b_law_vein : List M.S:=[
  .ret (.tup [(.lit (.str (PySem.Str.ofString "vein"))),(.gc (.call 14 [(.var 0),(.var 1),(.lit (.int 8)),(.idx (.var 2) (.lit (.int 2)))])),(.gc (.call 15 [(.var 0),(.var 1),(.lit (.int 1)),(.var 2)]))])]
noncomputable def f_law_vein : M.Fn:=⟨3,3,b_law_vein⟩
noncomputable def b_law_claim_fact : List M.S:=[
  .set (.var 5) (.gc (.call 17 [(.var 0),(.var 1),(.lit (.int 1)),(.var 4)])),
  .set (.var 6) (.gc (.call 16 [(.var 0),(.var 1),(.lit (.int 3))])),
  .set (.var 7) (.gc (.call 10 [(.var 0),(.var 1),(.lit (.int 5)),(.lit (.int 2))])),
  .set (.var 8) (.bin .Add (.lit (.int 1)) (.gc (.call 10 [(.var 0),(.var 1),(.lit (.int 6)),(.bcall .min [(.lit (.int 23)),(.idx (.var 3) (.var 7))])]))),
  .ite (.cmp .Lt (.var 2) (.lit (.int 3))) [.ret (.tup [(.lit (.str (PySem.Str.ofString "work"))),(.var 5)])] [],
  .ret (.idx (.gc (.lst [(.tup [(.lit (.str (PySem.Str.ofString "sell"))),(.var 5),(.var 6)]),(.tup [(.lit (.str (PySem.Str.ofString "part"))),(.var 5),(.var 7),(.var 8),(.var 6)]),(.tup [(.lit (.str (PySem.Str.ofString "give"))),(.var 5)])])) (.bin .Sub (.bin .FloorDiv (.var 2) (.lit (.int 2))) (.lit (.int 1))))]
noncomputable def f_law_claim_fact : M.Fn:=⟨5,9,b_law_claim_fact⟩
noncomputable def b_law_fact : List M.S:=[
  .set (.var 4) (.gc (.call 10 [(.var 0),(.var 1),(.lit (.int 0)),(.lit (.int 20))])),
  .set (.var 5) (.gc (.comp (.tup [0,1]) (.var 3) (some (.cmp .Eq (.idx (.var 1) (.lit (.int 0))) (.lit (.str (PySem.Str.ofString "vein"))))) (.var 0) [none,none])),
  .set (.var 6) (.gc (.comp (.tup [0,1]) (.var 3) (some (.cmp .In (.idx (.var 1) (.lit (.int 0))) (.tup [(.lit (.str (PySem.Str.ofString "stake"))),(.lit (.str (PySem.Str.ofString "part")))]))) (.var 0) [none,none])),
  .ite (.or (.cmp .Lt (.var 4) (.lit (.int 3))) (.and (.cmp .Lt (.var 4) (.lit (.int 8))) (.cmp .Eq (.bcall .len [(.var 5)]) (.lit (.int 0))))) [.ret (.call 18 [(.var 0),(.var 1),(.var 2)])] [],
  .ite (.and (.cmp .Lt (.var 4) (.lit (.int 5))) (.cmp .Gt (.idx (.var 2) (.lit (.int 2))) (.lit (.int 0)))) [.set (.var 7) (.bin .Add (.lit (.int 1)) (.gc (.call 10 [(.var 0),(.var 1),(.lit (.int 5)),(.idx (.var 2) (.lit (.int 2)))]))),.ret (.tup [(.lit (.str (PySem.Str.ofString "join"))),(.gc (.call 17 [(.var 0),(.var 1),(.lit (.int 1)),(.var 5)])),(.gc (.call 17 [(.var 0),(.var 1),(.lit (.int 3)),(.var 5)])),(.var 7)])] [],
  .ite (.or (.cmp .Lt (.var 4) (.lit (.int 12))) (.and (.cmp .Lt (.var 4) (.lit (.int 17))) (.cmp .Eq (.bcall .len [(.var 6)]) (.lit (.int 0))))) [.ret (.bin .Add (.tup [(.lit (.str (PySem.Str.ofString "stake"))),(.gc (.call 16 [(.var 0),(.var 1),(.lit (.int 1))]))]) (.gc (.call 13 [(.var 0),(.var 1),(.lit (.int 3)),(.idx (.var 2) (.lit (.int 0))),(.idx (.var 2) (.lit (.int 1)))])))] [],
  .ret (.call 19 [(.var 0),(.var 1),(.bin .Sub (.var 4) (.lit (.int 12))),(.var 2),(.var 6)])]
noncomputable def f_law_fact : M.Fn:=⟨4,8,b_law_fact⟩
noncomputable def b_law_dig : List M.S:=[
  .set (.var 3) (.gc (.sli (.gc (.call 13 [(.var 0),(.var 1),(.lit (.int 1)),(.idx (.var 2) (.lit (.int 0))),(.idx (.var 2) (.lit (.int 1)))])) none (some (.lit (.int 2))))),
  .set (.var 4) (.bin .Add (.gc (.sli (.gc (.call 13 [(.var 0),(.var 1),(.lit (.int 5)),(.idx (.var 2) (.lit (.int 0))),(.idx (.var 2) (.lit (.int 1)))])) (some (.lit (.int 2))) none)) (.tup [(.gc (.call 10 [(.var 0),(.var 1),(.lit (.int 9)),(.bin .Add (.idx (.var 2) (.lit (.int 2))) (.lit (.int 1)))]))])),
  .set (.var 5) (.bin .Add (.lit (.int 1)) (.gc (.call 10 [(.var 0),(.var 1),(.lit (.int 10)),(.idx (.gc (.lst [(.lit (.int 9)),(.lit (.int 300)),(.bin .Pow (.lit (.int 10)) (.lit (.int 6)))])) (.gc (.call 10 [(.var 0),(.var 1),(.lit (.int 11)),(.lit (.int 3))])))]))),
  .ret (.bin .Add (.bin .Add (.bin .Add (.tup [(.lit (.str (PySem.Str.ofString "dig"))),(.gc (.call 16 [(.var 0),(.var 1),(.lit (.int 12))]))]) (.var 3)) (.var 4)) (.tup [(.var 5)]))]
noncomputable def f_law_dig : M.Fn:=⟨3,6,b_law_dig⟩
noncomputable def b_law_pay : List M.S:=[
  .set (.var 2) (.gc (.call 16 [(.var 0),(.var 1),(.lit (.int 1))])),
  .set (.var 3) (.gc (.call 16 [(.var 0),(.var 1),(.lit (.int 3))])),
  .ite (.cmp .Eq (.var 3) (.var 2)) [.set (.var 3) (.bin .Add (.bin .Mod (.var 2) (.lit (.int 40))) (.lit (.int 1)))] [],
  .ret (.tup [(.lit (.str (PySem.Str.ofString "pay"))),(.var 2),(.var 3),(.bin .Add (.lit (.int 1)) (.gc (.call 10 [(.var 0),(.var 1),(.lit (.int 5)),(.idx (.gc (.lst [(.lit (.int 9)),(.bin .Pow (.lit (.int 10)) (.lit (.int 6)))])) (.gc (.call 10 [(.var 0),(.var 1),(.lit (.int 6)),(.lit (.int 2))])))])))])]
noncomputable def f_law_pay : M.Fn:=⟨2,4,b_law_pay⟩
noncomputable def b_law_bounds : List M.S:=[
  .set (.var 2) (.tup [(.lit (.int 1)),(.lit (.int 400))]),
  .set (.var 3) (.tup [(.lit (.int 1)),(.lit (.int 40))]),
  .set (.var 4) (.tup [(.lit (.int 1)),(.bin .Pow (.lit (.int 10)) (.lit (.int 6)))]),
  .set (.var 5) (.tup [(.lit (.int 0)),(.bin .Sub (.idx (.var 0) (.lit (.int 0))) (.lit (.int 1)))]),
  .set (.var 6) (.tup [(.lit (.int 0)),(.bin .Sub (.idx (.var 0) (.lit (.int 1))) (.lit (.int 1)))]),
  .set (.var 7) (.dic [(.lit (.str (PySem.Str.ofString "join"))),(.lst [(.var 2),(.var 2),(.tup [(.lit (.int 1)),(.idx (.var 0) (.lit (.int 2)))])]),(.lit (.str (PySem.Str.ofString "stake"))),(.lst [(.var 3),(.var 5),(.var 6),(.var 5),(.var 6)]),(.lit (.str (PySem.Str.ofString "work"))),(.lst [(.var 2)])]),
  .dset (.var 7) (.lit (.str (PySem.Str.ofString "sell"))) (.lst [(.var 2),(.var 3)]),
  .dset (.var 7) (.lit (.str (PySem.Str.ofString "part"))) (.lst [(.var 2),(.tup [(.lit (.int 0)),(.lit (.int 1))]),(.tup [(.lit (.int 1)),(.lit (.int 23))]),(.var 3)]),
  .dset (.var 7) (.lit (.str (PySem.Str.ofString "give"))) (.lst [(.var 2)]),
  .dset (.var 7) (.lit (.str (PySem.Str.ofString "dig"))) (.lst [(.var 3),(.var 5),(.var 6),(.var 5),(.var 6),(.tup [(.lit (.int 0)),(.idx (.var 0) (.lit (.int 2)))]),(.var 4)]),
  .dset (.var 7) (.lit (.str (PySem.Str.ofString "pay"))) (.lst [(.var 3),(.var 3),(.var 4)]),
  .ret (.dgt (.var 7) (.var 1))]
noncomputable def f_law_bounds : M.Fn:=⟨2,8,b_law_bounds⟩
noncomputable def b_law_some_fact : List M.S:=[
  .set (.var 3) (.gc (.call 10 [(.var 0),(.var 1),(.lit (.int 24)),(.lit (.int 5))])),
  .ite (.cmp .Eq (.var 3) (.lit (.int 0))) [.ret (.call 21 [(.var 0),(.var 1),(.var 2)])] [],
  .ite (.cmp .Eq (.var 3) (.lit (.int 1))) [.ret (.call 22 [(.var 0),(.var 1)])] [],
  .ret (.call 20 [(.var 0),(.var 1),(.var 2),(.gc (.lst [(.tup [(.lit (.int 7)),(.tup [(.lit (.str (PySem.Str.ofString "vein")))])]),(.tup [(.bin .Add (.lit (.int 1)) (.gc (.call 10 [(.var 0),(.var 1),(.lit (.int 21)),(.lit (.int 400))]))),(.tup [(.lit (.str (PySem.Str.ofString "stake")))])])]))])]
noncomputable def f_law_some_fact : M.Fn:=⟨3,4,b_law_some_fact⟩
noncomputable def b_law_written : List M.S:=[
  .ite (.cmp .NotEq (.idx (.var 0) (.lit (.int 0))) (.lit (.str (PySem.Str.ofString "vein")))) [.ret (.meth (.lit (.str (PySem.Str.ofString " "))) .join [(.gc (.bin .Add (.gc (.lst [(.idx (.var 0) (.lit (.int 0)))])) (.gc (.comp (.var 0) (.gc (.sli (.var 0) (some (.lit (.int 1))) none)) none (.bcall .str [(.var 0)]) [none]))))])] [],
  .set (.var 1) (.meth (.lit (.str (PySem.Str.ofString ""))) .join [(.gc (.comp (.var 0) (.idx (.var 0) (.lit (.int 1))) none (.bcall .str [(.var 0)]) [none]))]),
  .ite (.cmp .Eq (.bcall .len [(.idx (.var 0) (.lit (.int 1)))]) (.lit (.int 0))) [.set (.var 1) (.lit (.str (PySem.Str.ofString "-")))] [],
  .ret (.meth (.lit (.str (PySem.Str.ofString " "))) .join [(.gc (.bin .Add (.gc (.lst [(.lit (.str (PySem.Str.ofString "vein"))),(.var 1)])) (.gc (.comp (.var 0) (.idx (.var 0) (.lit (.int 2))) none (.bin .Add (.bin .Add (.bcall .str [(.idx (.var 0) (.lit (.int 0)))]) (.lit (.str (PySem.Str.ofString ",")))) (.bcall .str [(.idx (.var 0) (.lit (.int 1)))])) [none]))))])]
noncomputable def f_law_written : M.Fn:=⟨1,2,b_law_written⟩
noncomputable def b_law_great : List M.S:=[
  .set (.var 3) (.idx (.gc (.lst [(.lit (.int 2)),(.lit (.int 10)),(.lit (.int 1000)),(.bin .Pow (.lit (.int 10)) (.lit (.int 10)))])) (.gc (.call 10 [(.var 0),(.var 1),(.var 2),(.lit (.int 4))]))),
  .set (.var 4) (.gc (.call 10 [(.var 0),(.var 1),(.bin .Add (.var 2) (.lit (.int 1))),(.var 3)])),
  .ite (.cmp .Eq (.gc (.call 10 [(.var 0),(.var 1),(.bin .Add (.var 2) (.lit (.int 2))),(.lit (.int 6))])) (.lit (.int 0))) [.ret (.bin .Add (.bin .Mult (.var 4) (.bin .Pow (.lit (.int 10)) (.lit (.int 30)))) (.gc (.call 10 [(.var 0),(.var 1),(.bin .Add (.var 2) (.lit (.int 3))),(.bin .Pow (.lit (.int 10)) (.lit (.int 10)))])))] [],
  .ret (.var 4)]
noncomputable def f_law_great : M.Fn:=⟨3,5,b_law_great⟩
noncomputable def b_law_loose_fact : List M.S:=[
  .set (.var 2) (.gc (.lst [(.lit (.str (PySem.Str.ofString "vein"))),(.lit (.str (PySem.Str.ofString "join"))),(.lit (.str (PySem.Str.ofString "stake"))),(.lit (.str (PySem.Str.ofString "work"))),(.lit (.str (PySem.Str.ofString "sell"))),(.lit (.str (PySem.Str.ofString "part"))),(.lit (.str (PySem.Str.ofString "give"))),(.lit (.str (PySem.Str.ofString "dig"))),(.lit (.str (PySem.Str.ofString "pay")))])),
  .set (.var 3) (.idx (.var 2) (.gc (.call 10 [(.var 0),(.var 1),(.lit (.int 0)),(.lit (.int 9))]))),
  .ite (.cmp .NotEq (.var 3) (.lit (.str (PySem.Str.ofString "vein")))) [.set (.var 4) (.bcall .len [(.gc (.call 23 [(.tup [(.lit (.int 1)),(.lit (.int 1)),(.lit (.int 1))]),(.var 3)]))]),.ret (.bin .Add (.tup [(.var 3)]) (.bcall .tuple [(.gc (.comp (.var 0) (.rng1 (.var 4)) none (.gc (.call 26 [(.var 1),(.var 2),(.bin .Add (.lit (.int 1)) (.bin .Mult (.lit (.int 4)) (.var 0)))])) [none,some 0,some 1]))]))] [],
  .set (.var 5) (.gc (.comp (.var 0) (.rng1 (.gc (.call 10 [(.var 0),(.var 1),(.lit (.int 14)),(.lit (.int 13))]))) none (.gc (.call 10 [(.var 1),(.var 2),(.bin .Add (.lit (.int 1)) (.var 0)),(.lit (.int 10))])) [none,some 0,some 1])),
  .set (.var 6) (.lst []),
  .forr (.var 7) (.rng1 (.bin .Add (.lit (.int 1)) (.gc (.call 10 [(.var 0),(.var 1),(.lit (.int 15)),(.lit (.int 4))])))) [.expr (.meth (.var 6) .append [(.tup [(.gc (.call 26 [(.var 0),(.var 1),(.bin .Add (.lit (.int 16)) (.bin .Mult (.lit (.int 8)) (.var 7)))])),(.gc (.call 26 [(.var 0),(.var 1),(.bin .Add (.lit (.int 20)) (.bin .Mult (.lit (.int 8)) (.var 7)))]))])])],
  .ret (.tup [(.lit (.str (PySem.Str.ofString "vein"))),(.bcall .tuple [(.var 5)]),(.bcall .tuple [(.var 6)])])]
noncomputable def f_law_loose_fact : M.Fn:=⟨2,8,b_law_loose_fact⟩
noncomputable def b_law : List M.S:=[
  .set (.var 1) (.gc (.call 27 [(.var 0),(.lit (.int 1))])),
  .ite (.cmp .Eq (.gc (.call 10 [(.var 0),(.lit (.int 0)),(.lit (.int 10)),(.lit (.int 2))])) (.lit (.int 0))) [.set (.var 1) (.gc (.call 24 [(.var 0),(.lit (.int 1)),(.gc (.call 12 [(.var 0),(.lit (.int 0))]))]))] [],
  .set (.var 2) (.gc (.call 5 [(.var 1)])),
  .ite (.not (.gc (.call 11 [(.var 2),(.gc (.call 25 [(.var 1)]))]))) [.ret (.lit (.bl false))] [],
  .ret (.call 11 [(.gc (.call 9 [(.var 2)])),(.var 1)])]
noncomputable def f_law : M.Fn:=⟨1,3,b_law⟩
noncomputable def fns : List M.Fn:=[f_all_figures,f_number,f_read_numbers,f_shown_steps,f_shown_cell,f_shown,f_read_steps,f_read_cell,f_read_vein,f_read_fact,f_law_draw,f_law_same,f_law_size,f_law_rect,f_law_steps,f_law_outs,f_law_who,f_law_pick,f_law_vein,f_law_claim_fact,f_law_fact,f_law_dig,f_law_pay,f_law_bounds,f_law_some_fact,f_law_written,f_law_great,f_law_loose_fact,f_law]
theorem hFig : fns[0]? = some fFig:=rfl
theorem hNum : fns[1]? = some (fNum 0):=rfl
theorem hNums : fns[2]? = some (fNums 1):=rfl
theorem hDraw : fns[10]? = some fDraw:=rfl
theorem hSame : fns[11]? = some (fSame 11):=rfl
theorem hGreat : fns[26]? = some (fGreat 10):=rfl
noncomputable def cD (p : Nat × Nat) : D:=.tup [iD p.1,iD p.2]
noncomputable def wVein : List Nat:=[118,101,105,110]
theorem xVein : PySem.Str.ofString "vein" = mk wVein:=by decide +kernel
theorem xComma : PySem.Str.ofString "," = mk [44]:=by decide +kernel
theorem xDash : PySem.Str.ofString "-" = mk [45]:=by decide +kernel
inductive Fact where
  | word (w ks : List Nat)
  | vein (ss : List Nat) (cs : List (Nat × Nat))
noncomputable def sT (ss : List Nat) : List Nat:=if ss = [] then [45] else ss.map (· + 48)
noncomputable def cT (p : Nat × Nat) : List Nat:=joinC 44 [natD p.1,natD p.2]
noncomputable def fP : Fact→List (List Nat)
  | .word w ks=>w::ks.map natD
  | .vein ss cs=>wVein::sT ss::cs.map cT
noncomputable def fD : Fact→D
  | .word w ks=>.tup (tD w::ks.map iD)
  | .vein ss cs=>.tup [tD wVein,.tup (ss.map iD),.tup (cs.map cD)]
noncomputable def fX (f : Fact) : List Nat:=joinC 32 (fP f)
noncomputable def wordsN : List (List Nat × Nat):=[([106,111,105,110],3),([115,116,97,107,101],5),([119,111,114,107],1),([115,101,108,108],2),([112,97,114,116],4),([103,105,118,101],1),([100,105,103],7),([112,97,121],3)]
noncomputable def Fact.ok : Fact→Prop
  | .word w ks=>(w,ks.length) ∈ wordsN∧∀ k ∈ ks,nSm k
  | .vein ss cs=>(∀ s ∈ ss,s < 10)∧ss.length ≤ 20∧(∀ c ∈ cs,nSm c.1∧nSm c.2)∧cs.length ≤ 20∧cs ≠ []
noncomputable def gd (p : List Nat) : Prop:=32 ∉ p∧p.length ≤ 100
theorem gd_nat {k : Nat} (h : nSm k) : gd (natD k):=⟨fig_ne (by decide),by have:=h.len; omega⟩
theorem gd_s {ss : List Nat} (h : ∀ s ∈ ss,s < 10) (hl : ss.length ≤ 20) : gd (sT ss):=by
  unfold sT gd
  split
  · decide
  · refine ⟨fun z=>?_,by rw [List.length_map]; omega⟩
    obtain ⟨s,hs,e⟩:=List.mem_map.mp z
    omega
theorem gd_c {p : Nat × Nat} (h : nSm p.1∧nSm p.2) : gd (cT p):=by
  unfold cT gd
  refine ⟨fun z=>?_,?_⟩
  · rcases joinC_mem 44 _ 32 z with e | ⟨q,hq,e⟩
    · omega
    · simp only [List.mem_cons,List.not_mem_nil,or_false] at hq
      rcases hq with rfl | rfl <;> exact fig_ne (by decide) e
  · have:=joinC_len 44 45 [natD p.1,natD p.2] (fun q hq=>by
      simp only [List.mem_cons,List.not_mem_nil,or_false] at hq
      rcases hq with rfl | rfl
      · exact h.1.len
      · exact h.2.len)
    simp only [List.length_cons,List.length_nil] at this
    omega
theorem words_gd : ∀ p ∈ wordsN,gd p.1∧p.1 ≠ wVein∧p.2 ≤ 20:=by unfold gd; decide
theorem f_gd {f : Fact} (h : f.ok) : ∀ x ∈ fP f,gd x:=by
  intro x hx
  cases f with
  | word w ks =>
    rcases List.mem_cons.mp hx with rfl | hx
    · exact (words_gd _ h.1).1
    · obtain ⟨k,hk,rfl⟩:=List.mem_map.mp hx
      exact gd_nat (h.2 k hk)
  | vein ss cs =>
    obtain ⟨h1,h2,h3,_,_⟩:=h
    rcases List.mem_cons.mp hx with rfl | hx
    · unfold gd; decide
    · rcases List.mem_cons.mp hx with rfl | hx
      · exact gd_s h1 h2
      · obtain ⟨c,hc,rfl⟩:=List.mem_map.mp hx
        exact gd_c (h3 c hc)
theorem f_len {f : Fact} (h : f.ok) : (fP f).length ≤ 30:=by
  cases f with
  | word w ks =>
    have:=(words_gd _ h.1).2.2
    simp only [fP,List.length_cons,List.length_map]
    simp only at this
    omega
  | vein ss cs =>
    obtain ⟨_,_,_,h4,_⟩:=h
    simp only [fP,List.length_cons,List.length_map]
    omega
theorem f_ne (f : Fact) : ∃ a r,fP f = a::r:=by cases f <;> exact ⟨_,_,rfl⟩
theorem split_ok {f : Fact} (h : f.ok) (S : Store) : mSplit S (.str (mk (fX f))) [.str (mk [32])] = some (.loc S.length,S++[.lst true ((fP f).map tD)]):=by
  obtain ⟨a,r,e⟩:=f_ne f
  have hg:=f_gd h
  have hl:=f_len h
  have:=joinC_len 32 100 (fP f) fun x hx=>(hg x hx).2
  unfold fX
  rw [e] at hg this hl ⊢
  exact split_list (hg a List.mem_cons_self).1 (fun q hq=>(hg q (List.mem_cons_of_mem _ hq)).1) (by
    have h2 : (a::r).length * (100 + 1) ≤ 30 * 101:=Nat.mul_le_mul_right _ hl
    omega)
theorem join_ok {f : Fact} (h : f.ok) (S : Store) (d : D) (hd : seqAt S d = some ((fP f).map tD)) : mJoin S (.str (mk [32])) [d] = some (.str (mk (fX f)),S) :=
  join_list (ps:=fP f) hd (fun x hx=>by have:=(f_gd h x hx).2; omega) (by have:=f_len h; omega)
theorem cD_nl (cs : List (Nat × Nat)) : noLocs (cs.map cD) = true:=noLocs_map fun _ _=>rfl
theorem fD_nl (f : Fact) : noLoc (fD f) = true:=by
  cases f with
  | word w ks=>rw [fD,noLoc_tup,noLocs_cons,nl_iD]; rfl
  | vein ss cs=>rw [fD,noLoc_tup,noLocs_cons,noLocs_cons,noLocs_cons,noLoc_tup,noLoc_tup,nl_iD,cD_nl]; rfl
theorem dp_f {f : Fact} (h : f.ok) : Dp 3 (fD f):=by
  have dI : ∀ k j,Dp k (iD j):=fun k j=>.int
  have dT : ∀ k j,Dp k (tD j):=fun k j=>.str
  cases f with
  | word w ks =>
    have:=f_len h
    simp only [fP,List.length_cons,List.length_map] at this
    refine .tup (fun d hd=>?_) (by simp; omega)
    rcases List.mem_cons.mp hd with rfl | hd
    · exact dT _ _
    · obtain ⟨k,_,rfl⟩:=List.mem_map.mp hd
      exact dI _ _
  | vein ss cs =>
    obtain ⟨_,h2,_,h4,_⟩:=h
    refine .tup (fun d hd=>?_) (by simp)
    simp only [List.mem_cons,List.not_mem_nil,or_false] at hd
    rcases hd with rfl | rfl | rfl
    · exact dT _ _
    · exact .tup (fun d hd=>by obtain ⟨k,_,rfl⟩:=List.mem_map.mp hd; exact dI _ _) (by rw [List.length_map]; omega)
    · refine .tup (fun d hd=>?_) (by rw [List.length_map]; omega)
      obtain ⟨k,_,rfl⟩:=List.mem_map.mp hd
      unfold cD
      refine .tup (fun d hd=>?_) (by simp)
      simp only [List.mem_cons,List.not_mem_nil,or_false] at hd
      rcases hd with rfl | rfl <;> exact dI _ _
end K07
end
section
set_option linter.all false
set_option maxRecDepth 10000
set_option maxHeartbeats 4000000
namespace K07
open M
open PySem (Str)
theorem join_singles : ∀ cs : List Nat,Str.join (mk []) (cs.map fun c=>mk [c]) = mk cs
  | []=>rfl
  | [c]=>rfl
  | c::d::r=>by
    have ih:=join_singles (d::r)
    show mk [c]++mk []++Str.join (mk []) ((d::r).map fun c=>mk [c]) = _
    rw [ih,mk_app,mk_app]
    rfl
theorem join_steps (S : Store) (ss : List Nat) (hn : ss.length ≤ 20) : mJoin S (.str (mk [])) [.lst ((ss.map fun s=>[s + 48]).map tD)] = some (tD (ss.map (· + 48)),S):=by
  have e1 : asStrs ((ss.map fun s=>[s + 48]).map tD) = some ((ss.map (· + 48)).map fun c=>mk [c]):=by
    have:=asStrs_map ((ss.map (· + 48)).map fun c=>mk [c])
    rw [← this,List.map_map,List.map_map,List.map_map]
    rfl
  simp only [mJoin,seqAt,e1,Option.bind_some,join_singles]
  rw [if_pos]
  · rfl
  have hs : ∀ qs : List Nat,(List.map (fun x : Str=>x.length) (qs.map fun c=>mk [c])).sum = qs.length:=fun qs=>by
    induction qs with
    | nil=>rfl
    | cons q r ih =>
      simp only [List.map_cons,List.sum_cons,List.length_cons,ih]
      show (1 : Nat) + _ = _
      omega
  rw [hs,mk_len]
  simp only [List.length_map,List.length_nil]
  unfold lim
  omega
theorem s_str {ss : List Nat} (h : ∀ s ∈ ss,s < 10) : ∀ p ∈ ss.map fun s=>(iD s,[s + 48]),∀ S,bStr S [p.1] = some (tD p.2,S):=by
  intro p hp S
  obtain ⟨s,hs,rfl⟩:=List.mem_map.mp hp
  show bStr S [iD s] = some (tD [s + 48],S)
  rw [← natD_small (h s hs)]
  exact nSm.str (by have:=h s hs; unfold nSm; omega) S
theorem meth_join {r : R} {τ : Sl} {S : Store} {t : String} {z v : List Nat} {X : E} {xs : List D} (hz : PySem.Str.ofString t = mk z) (hlit : ∀ y,r.ev τ S (.lit (.str y)) = some (.str y,S)) (hx : r.ev τ S X = some (.lst xs,S)) (hj : mJoin S (.str (mk z)) [.lst xs] = some (tD v,S)) :
    stepEv r τ S (.meth (.lit (.str (PySem.Str.ofString t))) .join [X]) = some (tD v,S):=by
  have my : ∀ z,mty S .join (.str z) = true:=fun _=>rfl
  rw [hz]
  simp only [stepEv,hlit,Option.bind_some,my,if_true,evs,hx,mfun,hj]
theorem strs_steps {c : CF} {n : Nat} {τ : Sl} {st : Store} {it : E} {ss : List Nat} (h : ∀ s ∈ ss,s < 10) (hl : ss.length ≤ 20) (hit : src (runK c (n + 4)) τ st it = some (.tup (ss.map iD),st)) :
    (runK c (n + 7)).ev τ st (.meth (.lit (.str (PySem.Str.ofString ""))) .join [(.gc (.comp (.var 0) it none (.bcall .str [(.var 0)]) [none]))]) = some (tD (ss.map (· + 48)),st):=by
  have e:=comp_str (c:=c) (n:=n) (τ:=τ) (st:=st) (it:=it) (ss.map fun s=>(iD s,[s + 48])) (by rw [List.map_map]; exact hit) (s_str h) (by rw [List.length_map]; omega)
  rw [show (ss.map fun s=>(iD s,[s + 48])).map Prod.snd = ss.map fun s=>[s + 48] by rw [List.map_map]; rfl] at e
  rw [ev_k]
  exact meth_join te (fun _=>rfl) e (join_steps st ss hl)
theorem ssteps_ok (m : Nat) (st : Store) (ss : List Nat) (h : ∀ s ∈ ss,s < 10) (hl : ss.length ≤ 20) : callD fns (m + 1) 3 [.tup (ss.map iD)] st = some (tD (sT ss),st):=by
  refine call_of (0 + 20) (F:=f_shown_steps) rfl rfl rfl ?_
  show exs (stepEx (rn fns m (0 + 20))) b_shown_steps [some (.tup (ss.map iD))] st = _
  unfold b_shown_steps sT
  by_cases hs : ss = []
  · subst hs
    rw [xDash]
    exact exs_ret rfl
  · rw [if_neg hs]
    rw [exs_cons (τ':=[some (.tup (ss.map iD))]) (s':=st) (by
      cases ss with
      | nil=>exact absurd rfl hs
      | cons a r=>rfl)]
    refine exs_ret ?_
    have:=strs_steps (c:=callD fns m) (n:=0 + 13) (τ:=[some (.tup (ss.map iD))]) (st:=st) (it:=.var 0) h hl (src_tup rfl)
    simp only [stepEx,this,Option.map_some]
theorem cat_str (S : Store) (a b : List Nat) (ha : a.length ≤ 1000) (hb : b.length ≤ 1000) : binop S .Add (tD a) (tD b) = some (tD (a++b),S):=by
  show binop S .Add (.str (mk a)) (.str (mk b)) = _
  simp only [binop]
  rw [if_neg (by rw [mk_len,mk_len]; unfold lim; omega),mk_app]
  rfl
theorem scell_ok (m : Nat) (st : Store) (p : Nat × Nat) (h : nSm p.1∧nSm p.2) : callD fns (m + 1) 4 [cD p] st = some (tD (cT p),st):=by
  refine call_of (0 + 20) (F:=f_shown_cell) rfl rfl rfl ?_
  show exs (stepEx (rn fns m (0 + 20))) b_shown_cell [some (cD p),none,none] st = _
  unfold b_shown_cell
  rw [exs_cons (τ':=[some (cD p),some (iD p.1),none]) (s':=st) rfl]
  rw [exs_cons (τ':=[some (cD p),some (iD p.1),some (iD p.2)]) (s':=st) rfl]
  refine exs_ret ?_
  have ft : ∀ {k : Nat},nSm k→fmtD (iD k) = some (tD (natD k)):=fun {k} hk=>by
    show (if (k : Int).natAbs.log2 < 1920 then some (D.str (Str.ofString (toString (k : Int)))) else none) = _
    rw [if_pos hk.sm.log,str_nat (by omega)]
    rfl
  have f1:=ft h.1
  have f2:=ft h.2
  have a:=h.1.len
  have b:=h.2.len
  have c1 : catD [tD (natD p.1),tD [44],tD (natD p.2)] PySem.Str.empty = some (mk (cT p)):=by
    have st : ∀ (q z : List Nat) (r : List D),q.length + z.length ≤ 1000→catD (tD z::r) (mk q) = catD r (mk (q++z)):=fun q z r hl=>by
      show (if (mk q++mk z).length ≤ lim then catD r (mk q++mk z) else none) = _
      rw [mk_app,mk_len,if_pos (by rw [List.length_append]; unfold lim; omega)]
    show catD _ (mk []) = _
    rw [st _ _ _ (by simp; omega),st _ _ _ (by simp; omega),st _ _ _ (by simp; omega)]
    show some (mk ([]++natD p.1++[44]++natD p.2)) = some (mk (natD p.1++44::natD p.2))
    simp
  have w1 : ∀ n : Nat,(rn fns m (n + 2)).ev [some (cD p),some (iD p.1),some (iD p.2)] st (.fmt (.var 1)) = some (tD (natD p.1),st):=fun n=>by
    show ((fmtD (iD p.1)).map fun d=>(d,st)) = _
    rw [f1]; rfl
  have w2 : ∀ n : Nat,(rn fns m (n + 2)).ev [some (cD p),some (iD p.1),some (iD p.2)] st (.fmt (.var 2)) = some (tD (natD p.2),st):=fun n=>by
    show ((fmtD (iD p.2)).map fun d=>(d,st)) = _
    rw [f2]; rfl
  have w3 : ∀ n : Nat,(rn fns m (n + 1)).ev [some (cD p),some (iD p.1),some (iD p.2)] st (.lit (.str (PySem.Str.ofString ","))) = some (tD [44],st):=fun n=>by rw [xComma]; rfl
  simp only [stepEx]
  rw [ev_k]
  simp only [stepEv,evs,w1,w2,w3,Option.bind_some,c1,Option.map_some]
  rfl
theorem w_str {w ks : List Nat} (h : ∀ k ∈ ks,nSm k) : ∀ p ∈ (tD w,w)::ks.map fun k=>(iD k,natD k),∀ S,bStr S [p.1] = some (tD p.2,S):=by
  intro p hp S
  rcases List.mem_cons.mp hp with rfl | hp
  · rfl
  · obtain ⟨k,hk,rfl⟩:=List.mem_map.mp hp
    exact (h k hk).str S
theorem eq_tt (S : Store) (a b : List Nat) : eqD S (tD a) (tD b) = some (a == b):=by
  show eqD S (.str (mk a)) (.str (mk b)) = _
  rw [eqD_ss,mk_beq]
theorem ix0 (S : Store) (a : D) (r : List D) : idxD S (.tup (a::r)) (.int 0) = some a:=by
  simp [idxD,atI,ixN]
theorem ixL0 (S : Store) (a : D) (r : List D) : idxD S (.lst (a::r)) (.int 0) = some a:=by
  simp [idxD,seqAt,atI,ixN]
theorem cells_ev {c : CF} {n : Nat} {τ : Sl} {st : Store} {it elt : E} (cs : List (Nat × Nat)) (hl : cs.length ≤ 20) (hit : src (runK c n) τ st it = some (.tup (cs.map cD),st)) (he : ∀ p ∈ cs,(runK c n).ev [some (cD p)] st elt = some (tD (cT p),st)) :
    (runK c (n + 2)).ev τ st (.gc (.comp (.var 0) it none elt [none])) = some (.lst ((cs.map cT).map tD),st):=by
  have:=gc_comp (n:=n) (τ:=τ) (st:=st) (it:=it) (elt:=elt) (sr:=[none]) (rest:=[]) (s:=.tup (cs.map cD)) cs cD (fun p=>tD (cT p)) hit (fun i=>rfl) (by simp [Src.size]) rfl (by omega) (fun _ _=>rfl) he
  rw [this,List.map_map]
  rfl
theorem shown_ok (m : Nat) (st : Store) (f : Fact) (h : f.ok) : callD fns (m + 2) 5 [fD f] st = some (tD (fX f),st):=by
  refine call_of (0 + 30) (F:=f_shown) rfl rfl rfl ?_
  show exs (stepEx (rn fns (m + 1) (0 + 30))) b_shown [some (fD f)] st = _
  unfold b_shown
  have lt : ∀ n : Nat,(rn fns (m + 1) (n + 1)).ev [some (fD f)] st (.lit (.str (PySem.Str.ofString "vein"))) = some (tD wVein,st):=fun n=>by rw [xVein]; rfl
  cases f with
  | word w ks =>
    have hw:=words_gd _ h.1
    have x0 : ∀ n : Nat,(rn fns (m + 1) (n + 3)).ev [some (fD (.word w ks))] st (.idx (.var 0) (.lit (.int 0))) = some (tD w,st):=fun n=>by
      show ((idxD st (.tup (tD w::ks.map iD)) (.int 0)).map fun d=>(d,st)) = _
      rw [ix0]; rfl
    rw [exs_cons (τ':=[some (fD (.word w ks))]) (s':=st) (by
      refine (stepEx_ite_f (st':=st) ?_).trans rfl
      rw [tst_k]
      simp only [stepTst,x0,lt,Option.bind_some,cmpD,eq_tt,Option.map_some]
      rw [beq_eq_false_iff_ne.mpr hw.2.1])]
    refine exs_ret ?_
    have hl:=f_len h
    simp only [fP,List.length_cons,List.length_map] at hl
    have e:=comp_str (c:=callD fns (m + 1)) (n:=0 + 23) (τ:=[some (fD (.word w ks))]) (st:=st) (it:=.var 0) ((tD w,w)::ks.map fun k=>(iD k,natD k)) (by
      refine (src_tup (ds:=tD w::ks.map iD) rfl).trans ?_
      rw [List.map_cons,List.map_map]
      rfl) (w_str h.2) (by rw [List.length_cons,List.length_map]; omega)
    rw [show ((tD w,w)::ks.map fun k=>(iD k,natD k)).map Prod.snd = fP (.word w ks) by rw [List.map_cons,List.map_map]; rfl] at e
    have:=meth_join (r:=rn fns (m + 1) (0 + 29)) xBlank (fun _=>rfl) e (join_ok h st _ rfl)
    simp only [stepEx]
    rw [ev_k,this]
    rfl
  | vein ss cs =>
    obtain ⟨h1,h2,h3,h4,h5⟩:=id h
    have es:=ssteps_ok m st ss h1 h2
    have x0 : ∀ n : Nat,(rn fns (m + 1) (n + 3)).ev [some (fD (.vein ss cs))] st (.idx (.var 0) (.lit (.int 0))) = some (tD wVein,st):=fun n=>rfl
    have x1 : ∀ n : Nat,(rn fns (m + 1) (n + 3)).ev [some (fD (.vein ss cs))] st (.idx (.var 0) (.lit (.int 1))) = some (.tup (ss.map iD),st):=fun n=>rfl
    have x2 : ∀ n : Nat,(rn fns (m + 1) (n + 3)).ev [some (fD (.vein ss cs))] st (.idx (.var 0) (.lit (.int 2))) = some (.tup (cs.map cD),st):=fun n=>rfl
    refine exs_ret ((stepEx_ite_t (st':=st) ?_).trans ?_)
    · rw [tst_k]
      simp only [stepTst,x0,lt,Option.bind_some,cmpD,eq_tt,Option.map_some,beq_self_eq_true]
    rw [ex_k]
    refine exs_ret ?_
    have ea : (rn fns (m + 1) (0 + 26)).ev [some (fD (.vein ss cs))] st (.gc (.lst [(.lit (.str (PySem.Str.ofString "vein"))),(.call 3 [(.idx (.var 0) (.lit (.int 1)))])])) = some (.lst [tD wVein,tD (sT ss)],st):=by
      refine gc_lit (n:=0 + 24) ?_ (by simp) rfl
      have q : (rn fns (m + 1) (0 + 24)).ev [some (fD (.vein ss cs))] st (.call 3 [(.idx (.var 0) (.lit (.int 1)))]) = some (tD (sT ss),st):=by
        rw [ev_k]
        simp only [stepEv,evs,x1,Option.bind_some,call_k,es]
      simp only [evs,lt,q,Option.bind_some]
    have eb:=cells_ev (c:=callD fns (m + 1)) (n:=0 + 24) (τ:=[some (fD (.vein ss cs))]) (st:=st) (it:=.idx (.var 0) (.lit (.int 2))) (elt:=.gc (.call 4 [(.var 0)])) cs h4 (src_idx (x2 _)) (fun p hp=>gc_call (n:=0 + 21) (ds:=[cD p]) rfl (scell_ok m st p (h3 p hp)) rfl)
    have e:=gc_add ea eb rfl rfl (by simp; omega) (by rw [noLocs_append,nl_tD]; rfl)
    have:=meth_join (r:=rn fns (m + 1) (0 + 28)) xBlank (fun _=>rfl) e (join_ok h st _ rfl)
    simp only [stepEx]
    rw [ev_k,this]
    rfl
theorem written_ok (m : Nat) (st : Store) (f : Fact) (h : f.ok) : callD fns (m + 1) 25 [fD f] st = some (tD (fX f),st):=by
  refine call_of (0 + 30) (F:=f_law_written) rfl rfl rfl ?_
  show exs (stepEx (rn fns m (0 + 30))) b_law_written [some (fD f),none] st = _
  unfold b_law_written
  have lt : ∀ n : Nat,∀ τ,(rn fns m (n + 1)).ev τ st (.lit (.str (PySem.Str.ofString "vein"))) = some (tD wVein,st):=fun n τ=>by rw [xVein]; rfl
  cases f with
  | word w ks =>
    have hw:=words_gd _ h.1
    have x0 : ∀ n : Nat,(rn fns m (n + 3)).ev [some (fD (.word w ks)),none] st (.idx (.var 0) (.lit (.int 0))) = some (tD w,st):=fun n=>by
      show ((idxD st (.tup (tD w::ks.map iD)) (.int 0)).map fun d=>(d,st)) = _
      rw [ix0]; rfl
    have hl:=f_len h
    simp only [fP,List.length_cons,List.length_map] at hl
    refine exs_ret ((stepEx_ite_t (st':=st) ?_).trans ?_)
    · rw [tst_k]
      simp only [stepTst,x0,lt,Option.bind_some,cmpD,neD,eq_tt,Option.map_some]
      rw [beq_eq_false_iff_ne.mpr hw.2.1]
      rfl
    rw [ex_k]
    refine exs_ret ?_
    have ea : (rn fns m (0 + 26)).ev [some (fD (.word w ks)),none] st (.gc (.lst [(.idx (.var 0) (.lit (.int 0)))])) = some (.lst [tD w],st):=by
      refine gc_lit (n:=0 + 24) ?_ (by simp) rfl
      simp only [evs,x0,Option.bind_some]
    have sl : (rn fns m (0 + 24)).ev [some (fD (.word w ks)),none] st (.gc (.sli (.var 0) (some (.lit (.int 1))) none)) = some (.tup (ks.map iD),st):=by
      refine gc_ev (n:=0 + 23) ?_ (by rw [noLoc_tup]; exact nl_iD _)
      have : cut (tD w::ks.map iD) (some 1) none = ks.map iD:=cut_drop _ 1 (by simp)
      show some (D.tup (cut (tD w::ks.map iD) (some 1) none),st) = _
      rw [this]
    have eb:=comp_str (c:=callD fns m) (n:=0 + 20) (τ:=[some (fD (.word w ks)),none]) (st:=st) (it:=.gc (.sli (.var 0) (some (.lit (.int 1))) none)) (ks.map fun k=>(iD k,natD k)) (by
      rw [List.map_map]
      simp only [src]
      rw [sl]
      rfl) (fun p hp=>w_str (w:=w) h.2 p (List.mem_cons_of_mem _ hp)) (by rw [List.length_map]; omega)
    rw [show (ks.map fun k=>(iD k,natD k)).map Prod.snd = ks.map natD by rw [List.map_map]; rfl] at eb
    have e:=gc_add ea eb rfl rfl (by simp; omega) (by rw [noLocs_append,nl_tD]; rfl)
    have:=meth_join (r:=rn fns m (0 + 28)) xBlank (fun _=>rfl) e (join_ok h st _ rfl)
    simp only [stepEx]
    rw [ev_k,this]
    rfl
  | vein ss cs =>
    obtain ⟨h1,h2,h3,h4,h5⟩:=id h
    have x0 : ∀ n : Nat,(rn fns m (n + 3)).ev [some (fD (.vein ss cs)),none] st (.idx (.var 0) (.lit (.int 0))) = some (tD wVein,st):=fun n=>rfl
    have x1 : ∀ n : Nat,∀ o,(rn fns m (n + 3)).ev [some (fD (.vein ss cs)),o] st (.idx (.var 0) (.lit (.int 1))) = some (.tup (ss.map iD),st):=fun n o=>rfl
    have x2 : ∀ n : Nat,∀ o,(rn fns m (n + 3)).ev [some (fD (.vein ss cs)),o] st (.idx (.var 0) (.lit (.int 2))) = some (.tup (cs.map cD),st):=fun n o=>rfl
    rw [exs_cons (τ':=[some (fD (.vein ss cs)),none]) (s':=st) (by
      refine (stepEx_ite_f (st':=st) ?_).trans rfl
      rw [tst_k]
      simp only [stepTst,x0,lt,Option.bind_some,cmpD,neD,eq_tt,Option.map_some,beq_self_eq_true,Bool.not_true])]
    have e1:=strs_steps (c:=callD fns m) (n:=0 + 23) (τ:=[some (fD (.vein ss cs)),none]) (st:=st) (it:=.idx (.var 0) (.lit (.int 1))) h1 h2 (src_idx (x1 _ _))
    rw [exs_cons (τ':=[some (fD (.vein ss cs)),some (tD (ss.map (· + 48)))]) (s':=st) (by simp only [stepEx,e1,Option.bind_some]; rfl)]
    rw [exs_cons (τ':=[some (fD (.vein ss cs)),some (tD (sT ss))]) (s':=st) (by
      unfold sT
      cases ss with
      | nil=>rw [xDash]; rfl
      | cons a r =>
        rw [if_neg (by simp)]
        refine (stepEx_ite_f (st':=st) ?_).trans rfl
        rw [tst_k]
        have l : ∀ n : Nat,(rn fns m (n + 5)).ev [some (fD (.vein (a::r) cs)),some (tD ((a::r).map (· + 48)))] st (.bcall .len [(.idx (.var 0) (.lit (.int 1)))]) = some (.int ((r.length + 1 : Nat) : Int),st):=fun n=>by
          rw [ev_k]
          simp only [stepEv,evs,x1,Option.bind_some,bfun,bLen,List.length_map,List.length_cons]
        have l0 : ∀ n : Nat,(rn fns m (n + 1)).ev [some (fD (.vein (a::r) cs)),some (tD ((a::r).map (· + 48)))] st (.lit (.int 0)) = some (.int 0,st):=fun n=>rfl
        simp only [stepTst,l,l0,Option.bind_some,cmpD,eqD_ii,Option.map_some]
        rw [beq_eq_false_iff_ne.mpr (by omega)])]
    refine exs_ret ?_
    have ea : (rn fns m (0 + 27)).ev [some (fD (.vein ss cs)),some (tD (sT ss))] st (.gc (.lst [(.lit (.str (PySem.Str.ofString "vein"))),(.var 1)])) = some (.lst [tD wVein,tD (sT ss)],st):=by
      refine gc_lit (n:=0 + 25) ?_ (by simp) rfl
      have q : (rn fns m (0 + 25)).ev [some (fD (.vein ss cs)),some (tD (sT ss))] st (.var 1) = some (tD (sT ss),st):=rfl
      simp only [evs,lt,q,Option.bind_some]
    have eb:=cells_ev (c:=callD fns m) (n:=0 + 25) (τ:=[some (fD (.vein ss cs)),some (tD (sT ss))]) (st:=st) (it:=.idx (.var 0) (.lit (.int 2))) (elt:=.bin .Add (.bin .Add (.bcall .str [(.idx (.var 0) (.lit (.int 0)))]) (.lit (.str (PySem.Str.ofString ",")))) (.bcall .str [(.idx (.var 0) (.lit (.int 1)))])) cs h4 (src_idx (x2 _ _)) (fun p hp=>by
      obtain ⟨p1,p2⟩:=h3 p hp
      have a:=p1.len
      have b:=p2.len
      have b1 : ∀ n : Nat,(rn fns m (n + 6)).ev [some (cD p)] st (.bcall .str [(.idx (.var 0) (.lit (.int 0)))]) = some (tD (natD p.1),st):=fun n=>p1.str st
      have b2 : ∀ n : Nat,(rn fns m (n + 6)).ev [some (cD p)] st (.bcall .str [(.idx (.var 0) (.lit (.int 1)))]) = some (tD (natD p.2),st):=fun n=>p2.str st
      have b3 : ∀ n : Nat,(rn fns m (n + 1)).ev [some (cD p)] st (.lit (.str (PySem.Str.ofString ","))) = some (tD [44],st):=fun n=>by rw [xComma]; rfl
      have b4 : ∀ n : Nat,(rn fns m (n + 8)).ev [some (cD p)] st (.bin .Add (.bcall .str [(.idx (.var 0) (.lit (.int 0)))]) (.lit (.str (PySem.Str.ofString ",")))) = some (tD (natD p.1++[44]),st):=fun n=>by
        rw [ev_k]
        simp only [stepEv,b1,b3,Option.bind_some,cat_str _ _ _ (show (natD p.1).length ≤ 1000 by omega) (show ([44] : List Nat).length ≤ 1000 by simp)]
      show (rn fns m (0 + 25)).ev [some (cD p)] st _ = _
      rw [ev_k]
      simp only [stepEv,b4,b2,Option.bind_some,cat_str _ _ _ (show (natD p.1++[44]).length ≤ 1000 by simp; omega) (show (natD p.2).length ≤ 1000 by omega)]
      show some (tD (natD p.1++[44]++natD p.2),st) = some (tD (natD p.1++44::natD p.2),st)
      simp)
    have e:=gc_add ea eb rfl rfl (by simp; omega) (by rw [noLocs_append,nl_tD]; rfl)
    have:=meth_join (r:=rn fns m (0 + 29)) xBlank (fun _=>rfl) e (join_ok h st _ rfl)
    simp only [stepEx]
    rw [ev_k,this]
    rfl
end K07
end
section
set_option linter.all false
set_option maxRecDepth 10000
set_option maxHeartbeats 4000000
namespace K07
open M
open PySem (Str)
theorem rsteps_ok (m : Nat) (st : Store) (ss : List Nat) (hs : ∀ s ∈ ss,s < 10) (hn : ss.length ≤ 20) : callD fns (m + 2) 6 [tD (sT ss)] st = some (.tup (ss.map iD),st):=by
  refine call_of (0 + 20) (F:=f_read_steps) rfl rfl rfl ?_
  show exs (stepEx (rn fns (m + 1) (0 + 20))) b_read_steps [some (tD (sT ss))] st = _
  unfold b_read_steps
  have t1 : ∀ n : Nat,(rn fns (m + 1) (n + 5)).tst [some (tD (sT ss))] st (.cmp .Eq (.var 0) (.glo (PySem.Str.ofString "NO_STEPS") (.str (PySem.Str.ofString "-")))) = some (sT ss == [45],st):=fun n=>by
    rw [xDash,tst_k]
    have a : ∀ n : Nat,(rn fns (m + 1) (n + 1)).ev [some (tD (sT ss))] st (.var 0) = some (tD (sT ss),st):=fun n=>rfl
    have b : ∀ n : Nat,(rn fns (m + 1) (n + 1)).ev [some (tD (sT ss))] st (.glo (PySem.Str.ofString "NO_STEPS") (.str (mk [45]))) = some (tD [45],st):=fun n=>rfl
    simp only [stepTst,a,b,Option.bind_some,cmpD,eq_tt,Option.map_some]
  by_cases h : ss = []
  · subst h
    refine exs_ret ((stepEx_ite_t (st':=st) (by rw [t1]; rfl)).trans ?_)
    rfl
  · have hT : sT ss = ss.map (· + 48):=by rw [sT,if_neg h]
    have hne : (sT ss == [45]) = false:=by
      rw [beq_eq_false_iff_ne,hT]
      intro q
      have : (45 : Nat) ∈ ss.map (· + 48):=by rw [q]; simp
      obtain ⟨a,-,e⟩:=List.mem_map.mp this
      omega
    rw [exs_cons (τ':=[some (tD (sT ss))]) (s':=st) (by refine (stepEx_ite_f (st':=st) ?_).trans rfl; rw [t1,hne])]
    have hlt : ∀ c ∈ ss.map (· + 48),c < 128:=fun c hc=>by
      obtain ⟨a,ha,rfl⟩:=List.mem_map.mp hc
      have:=hs a ha
      omega
    have hfig : ∀ s ∈ ss,isFig (s + 48) = true:=fun s h1=>by
      have:=hs s h1
      simp [isFig]
      omega
    have ef:=figs_ok hFig 0 m st (ss.map (· + 48)) hlt (by simp; omega)
    have hall : (!(ss.map (· + 48)).isEmpty && (ss.map (· + 48)).all isFig) = true:=by
      rw [Bool.and_eq_true]
      refine ⟨by simpa using h,List.all_eq_true.mpr fun c hc=>?_⟩
      obtain ⟨a,ha,rfl⟩:=List.mem_map.mp hc
      exact hfig a ha
    rw [hall] at ef
    rw [hT]
    have g1 : ∀ n : Nat,(rn fns (m + 1) (n + 5)).ev [some (tD (ss.map (· + 48)))] st (.gc (.call 0 [(.var 0)])) = some (.bl true,st):=fun n =>
      gc_call (n:=n + 2) (ds:=[tD (ss.map (· + 48))]) rfl ef rfl
    rw [exs_cons (τ':=[some (tD (ss.map (· + 48)))]) (s':=st) (by
      refine (stepEx_ite_f (st':=st) ?_).trans rfl
      rw [tst_k]
      simp only [stepTst,tst_k,g1,Option.bind_some,truth,Option.map_some,Bool.not_true])]
    have e1 : ∀ n : Nat,(rn fns (m + 1) (n + 8)).ev [some (tD (ss.map (· + 48)))] st (.gc (.comp (.var 0) (.var 0) none (.bcall .int [(.var 0)]) [none])) = some (.lst (ss.map iD),st):=fun n=>by
      refine gc_comp (n:=n + 6) (s:=.str (mk (ss.map (· + 48)))) (rest:=[]) ss (fun s=>sgn (s + 48)) iD ?_ (fun i=>?_) (by simp [Src.size,mk_cps]) rfl (by omega) (fun _ _=>rfl) (fun s h1=>?_)
      · show src (rn fns (m + 1) (n + 6)) [some (.str (mk (ss.map (· + 48))))] st (.var 0) = _
        simp only [src,ev_k,stepEv,List.getElem?_cons_zero,Option.bind_some,mk_ascii hlt,if_true]
      · rw [at_str,mk_cps,List.map_map]
        rfl
      · have hk:=hfig s h1
        have hb : bInt st [sgn (s + 48)] = some (iD s,st):=by
          show (if !([s + 48] : List Nat).isEmpty && [s + 48].all isFig && decide ((1 : Nat) ≤ 640) then some (D.int (figVal [s + 48] : Nat),st) else none) = _
          have : figVal [s + 48] = s:=by simp [figVal]
          rw [this]
          simp [hk,iD]
        simp only [ev_k,stepEv,evs,List.getElem?_cons_zero,Option.bind_some,bfun,hb]
    refine exs_ret ?_
    simp only [stepEx]
    rw [ev_k]
    simp only [stepEv,evs,e1,Option.bind_some,bfun,bTuple,seqAt,Option.map_some]
theorem rcell_ok (m : Nat) (st : Store) (p : Nat × Nat) (h : nSm p.1∧nSm p.2) : callD fns (m + 4) 7 [tD (cT p)] st = some (cD p,st):=by
  have hsp:=split_list (S:=st) (c:=44) (p:=natD p.1) (r:=[natD p.2]) (fig_ne rfl) (fun q hq=>by rw [List.mem_singleton.mp hq]; exact fig_ne rfl) (by have:=(gd_c h).2; unfold cT at this; omega)
  have en:=nums_ok hFig hNum hNums m st [p.1,p.2] (by simp [h.1,h.2]) (by simp)
  refine call_of (0 + 20) (F:=f_read_cell) rfl rfl rfl ?_
  show exs (stepEx (rn fns (m + 3) (0 + 20))) b_read_cell [some (tD (cT p)),none] st = _
  unfold b_read_cell
  have my : ∀ z,mty st .split (.str z) = true:=fun _=>rfl
  have s1 : ∀ n : Nat,(rn fns (m + 3) (n + 6)).ev [some (tD (cT p)),none] st (.gc (.meth (.var 0) .split [(.lit (.str (PySem.Str.ofString ",")))])) = some (.lst (([p.1,p.2].map natD).map tD),st):=fun n=>by
    refine gc_evL (n:=n + 5) ?_ (nl_tD _)
    rw [xComma]
    show (runK (callD fns (m + 3)) (n + 5)).ev [some (.str (mk (cT p))),none] st _ = _
    simp only [ev_k,stepEv,evs,List.getElem?_cons_zero,Option.bind_some,my,if_true,mfun]
    exact hsp
  have g1 : ∀ n : Nat,(rn fns (m + 3) (n + 10)).ev [some (tD (cT p)),none] st (.gc (.call 2 [(.gc (.meth (.var 0) .split [(.lit (.str (PySem.Str.ofString ",")))]))])) = some (.lst ([p.1,p.2].map iD),st):=fun n=>by
    refine gc_call (n:=n + 7) (ds:=[.lst (([p.1,p.2].map natD).map tD)]) ?_ en (nl_iD _)
    simp only [evs,s1,Option.bind_some]
  rw [exs_cons (τ':=[some (tD (cT p)),some (.lst ([p.1,p.2].map iD))]) (s':=st) (by simp only [stepEx,g1,Option.bind_some]; rfl)]
  rw [exs_cons (τ':=[some (tD (cT p)),some (.lst ([p.1,p.2].map iD))]) (s':=st) rfl]
  exact exs_ret rfl
theorem rvein_ok (m : Nat) (st : Store) (ss : List Nat) (cs : List (Nat × Nat)) (h : (Fact.vein ss cs).ok) : callD fns (m + 5) 8 [.lst ((sT ss::cs.map cT).map tD)] st = some (fD (.vein ss cs),st):=by
  obtain ⟨h1,h2,h3,h4,h5⟩:=h
  have es:=rsteps_ok (m + 2) st ss h1 h2
  refine call_of (0 + 20) (F:=f_read_vein) rfl rfl rfl ?_
  show exs (stepEx (rn fns (m + 4) (0 + 20))) b_read_vein [some (.lst ((sT ss::cs.map cT).map tD))] st = _
  unfold b_read_vein
  rw [exs_cons (τ':=[some (.lst ((sT ss::cs.map cT).map tD))]) (s':=st) (by
    refine (stepEx_ite_f (st':=st) ?_).trans rfl
    have l : ∀ n : Nat,(rn fns (m + 4) (n + 3)).ev [some (.lst ((sT ss::cs.map cT).map tD))] st (.bcall .len [(.var 0)]) = some (.int ((cs.length + 1 : Nat) : Int),st):=fun n=>by
      show some (D.int ((((sT ss::cs.map cT).map tD).length : Nat) : Int),st) = _
      simp
    have l0 : ∀ n : Nat,(rn fns (m + 4) (n + 1)).ev [some (.lst ((sT ss::cs.map cT).map tD))] st (.lit (.int 2)) = some (.int 2,st):=fun n=>rfl
    rw [tst_k]
    simp only [stepTst,l,l0,Option.bind_some,cmpD,Option.map_some]
    have : 0 < cs.length:=List.length_pos_iff.mpr h5
    rw [decide_eq_false (by omega)])]
  have a0 : ∀ n : Nat,(rn fns (m + 4) (n + 1)).ev [some (.lst ((sT ss::cs.map cT).map tD))] st (.lit (.str (PySem.Str.ofString "vein"))) = some (tD wVein,st):=fun n=>by rw [xVein]; rfl
  have x0 : ∀ n : Nat,(rn fns (m + 4) (n + 3)).ev [some (.lst ((sT ss::cs.map cT).map tD))] st (.idx (.var 0) (.lit (.int 0))) = some (tD (sT ss),st):=fun n=>by
    show ((idxD st (.lst (tD (sT ss)::(cs.map cT).map tD)) (.int 0)).map fun d=>(d,st)) = _
    rw [ixL0]; rfl
  have a1 : ∀ n : Nat,(rn fns (m + 4) (n + 8)).ev [some (.lst ((sT ss::cs.map cT).map tD))] st (.gc (.call 6 [(.idx (.var 0) (.lit (.int 0)))])) = some (.tup (ss.map iD),st):=fun n=>by
    refine gc_call (n:=n + 5) (ds:=[tD (sT ss)]) ?_ es (by rw [noLoc_tup]; exact nl_iD _)
    simp only [evs,x0,Option.bind_some]
  have sl : ∀ n : Nat,(rn fns (m + 4) (n + 4)).ev [some (.lst ((sT ss::cs.map cT).map tD))] st (.gc (.sli (.var 0) (some (.lit (.int 1))) none)) = some (.lst ((cs.map cT).map tD),st):=fun n=>by
    have c1 : cut ((sT ss::cs.map cT).map tD) (some 1) none = (cs.map cT).map tD:=cut_drop _ 1 (by simp)
    have:=gc_sli (c:=callD fns (m + 4)) (n:=n + 2) (τ:=[some (.lst ((sT ss::cs.map cT).map tD))]) (st:=st) (a:=.var 0) (lo:=some (.lit (.int 1))) (hi:=none) (xs:=(sT ss::cs.map cT).map tD) (l:=some 1) (h:=none) rfl rfl rfl (by rw [c1]; exact nl_tD _)
    rw [c1] at this
    exact this
  have a2 : ∀ n : Nat,(rn fns (m + 4) (n + 12)).ev [some (.lst ((sT ss::cs.map cT).map tD))] st (.bcall .tuple [(.gc (.comp (.var 0) (.gc (.sli (.var 0) (some (.lit (.int 1))) none)) none (.gc (.call 7 [(.var 0)])) [none]))]) = some (.tup (cs.map cD),st):=fun n=>by
    have : (rn fns (m + 4) (n + 11)).ev [some (.lst ((sT ss::cs.map cT).map tD))] st (.gc (.comp (.var 0) (.gc (.sli (.var 0) (some (.lit (.int 1))) none)) none (.gc (.call 7 [(.var 0)])) [none])) = some (.lst (cs.map cD),st):=by
      refine gc_comp (n:=n + 9) (s:=.lst (.lst ((cs.map cT).map tD))) (rest:=[]) cs (fun p=>tD (cT p)) cD ?_ (fun i=>by rw [at_lst',List.map_map]; rfl) (by rw [size_lst']; simp) rfl (by omega) (fun _ _=>rfl) fun p hp=>?_
      · simp only [src]
        have q:=sl (n + 5)
        have q' : (runK (callD fns (m + 4)) (n + 9)).ev [some (.lst ((sT ss::cs.map cT).map tD))] st (.gc (.sli (.var 0) (some (.lit (.int 1))) none)) = some (.lst ((cs.map cT).map tD),st):=q
        rw [q']
        rfl
      · exact gc_call (n:=n + 6) (ds:=[tD (cT p)]) rfl (rcell_ok m st p (h3 p hp)) rfl
    rw [ev_k]
    simp only [stepEv,evs,this,Option.bind_some,bfun,bTuple,seqAt,Option.map_some]
  refine exs_ret ?_
  simp only [stepEx]
  rw [ev_k]
  simp only [stepEv,evs,a0,a1,a2,Option.bind_some]
  rfl
noncomputable def askKeys : List Str:=[(PySem.Str.ofString "join"),(PySem.Str.ofString "stake"),(PySem.Str.ofString "work"),(PySem.Str.ofString "sell"),(PySem.Str.ofString "part"),(PySem.Str.ofString "give"),(PySem.Str.ofString "dig"),(PySem.Str.ofString "pay")]
noncomputable def askVals : List D:=[(.tup [(.str (PySem.Str.ofString "day")),(.str (PySem.Str.ofString "day")),(.str (PySem.Str.ofString "below"))]),(.tup [(.str (PySem.Str.ofString "folk")),(.str (PySem.Str.ofString "x")),(.str (PySem.Str.ofString "y")),(.str (PySem.Str.ofString "x")),(.str (PySem.Str.ofString "y"))]),(.tup [(.str (PySem.Str.ofString "day"))]),(.tup [(.str (PySem.Str.ofString "day")),(.str (PySem.Str.ofString "folk"))]),(.tup [(.str (PySem.Str.ofString "day")),(.str (PySem.Str.ofString "side")),(.str (PySem.Str.ofString "line")),(.str (PySem.Str.ofString "folk"))]),(.tup [(.str (PySem.Str.ofString "day"))]),(.tup [(.str (PySem.Str.ofString "folk")),(.str (PySem.Str.ofString "x")),(.str (PySem.Str.ofString "y")),(.str (PySem.Str.ofString "x")),(.str (PySem.Str.ofString "y")),(.str (PySem.Str.ofString "floor")),(.str (PySem.Str.ofString "coins"))]),(.tup [(.str (PySem.Str.ofString "folk")),(.str (PySem.Str.ofString "folk")),(.str (PySem.Str.ofString "coins"))])]
theorem b_rf : b_read_fact = [
  .set (.var 1) (.gc (.meth (.var 0) .split [(.lit (.str (PySem.Str.ofString " ")))])),
  .set (.var 2) (.idx (.var 1) (.lit (.int 0))),
  .ite (.cmp .Eq (.var 2) (.lit (.str (PySem.Str.ofString "vein")))) [.ret (.call 8 [(.gc (.sli (.var 1) (some (.lit (.int 1))) none))])] [],
  .ite (.gin true (PySem.Str.ofString "ASKS") askKeys (.var 2)) [.rais] [],
  .set (.var 3) (.gc (.call 2 [(.gc (.sli (.var 1) (some (.lit (.int 1))) none))])),
  .ite (.cmp .NotEq (.bcall .len [(.var 3)]) (.bcall .len [(.gidx (PySem.Str.ofString "ASKS") askKeys askVals (.var 2))])) [.rais] [],
  .ret (.bin .Add (.tup [(.var 2)]) (.bcall .tuple [(.var 3)]))]:=rfl
noncomputable def askLen (w : List Nat) : Nat:=match (askKeys.zip askVals).find? fun q=>q.1 == mk w with
  | some (_,.tup ds)=>ds.length
  | _=>0
theorem words_ok : ∀ p ∈ wordsN,askKeys.contains (mk p.1) = true∧askLen p.1 = p.2∧p.2 ≠ 0:=by decide +kernel
theorem ask_find {w : List Nat} (h : askLen w ≠ 0) : ∃ k ds,((askKeys.zip askVals).find? fun q=>q.1 == mk w) = some (k,.tup ds)∧ds.length = askLen w:=by
  unfold askLen at h ⊢
  split at h
  · rename_i k ds e
    exact ⟨k,ds,e,rfl⟩
  · exact absurd rfl h
theorem rfact_ok (m : Nat) (st : Store) (f : Fact) (h : f.ok) : callD fns (m + 6) 9 [tD (fX f)] st = some (fD f,st):=by
  have hsp:=split_ok h st
  refine call_of (0 + 20) (F:=f_read_fact) rfl rfl rfl ?_
  show exs (stepEx (rn fns (m + 5) (0 + 20))) b_read_fact [some (tD (fX f)),none,none,none] st = _
  rw [b_rf]
  have my : ∀ z,mty st .split (.str z) = true:=fun _=>rfl
  have s1 : ∀ n : Nat,(rn fns (m + 5) (n + 6)).ev [some (tD (fX f)),none,none,none] st (.gc (.meth (.var 0) .split [(.lit (.str (PySem.Str.ofString " ")))])) = some (.lst ((fP f).map tD),st):=fun n=>by
    refine gc_evL (n:=n + 5) ?_ (nl_tD _)
    rw [xBlank]
    show (runK (callD fns (m + 5)) (n + 5)).ev [some (.str (mk (fX f))),none,none,none] st _ = _
    simp only [ev_k,stepEv,evs,List.getElem?_cons_zero,Option.bind_some,my,if_true,mfun]
    exact hsp
  rw [exs_cons (τ':=[some (tD (fX f)),some (.lst ((fP f).map tD)),none,none]) (s':=st) (by simp only [stepEx,s1,Option.bind_some]; rfl)]
  obtain ⟨w,r,e⟩:=f_ne f
  have x0 : ∀ n : Nat,(rn fns (m + 5) (n + 3)).ev [some (tD (fX f)),some (.lst ((fP f).map tD)),none,none] st (.idx (.var 1) (.lit (.int 0))) = some (tD w,st):=fun n=>by
    show ((idxD st (.lst ((fP f).map tD)) (.int 0)).map fun d=>(d,st)) = _
    rw [e,List.map_cons,ixL0]; rfl
  rw [exs_cons (τ':=[some (tD (fX f)),some (.lst ((fP f).map tD)),some (tD w),none]) (s':=st) (by simp only [stepEx,x0,Option.bind_some]; rfl)]
  have v2 : ∀ n : Nat,∀ o,(rn fns (m + 5) (n + 1)).ev [some (tD (fX f)),some (.lst ((fP f).map tD)),some (tD w),o] st (.var 2) = some (tD w,st):=fun n o=>rfl
  have t1 : ∀ n : Nat,(rn fns (m + 5) (n + 5)).tst [some (tD (fX f)),some (.lst ((fP f).map tD)),some (tD w),none] st (.cmp .Eq (.var 2) (.lit (.str (PySem.Str.ofString "vein")))) = some (w == wVein,st):=fun n=>by
    have lt : ∀ n : Nat,∀ τ,(rn fns (m + 5) (n + 1)).ev τ st (.lit (.str (PySem.Str.ofString "vein"))) = some (tD wVein,st):=fun n τ=>by rw [xVein]; rfl
    rw [tst_k]
    simp only [stepTst,v2,lt,Option.bind_some,cmpD,eq_tt,Option.map_some]
  have sl : ∀ n : Nat,(rn fns (m + 5) (n + 4)).ev [some (tD (fX f)),some (.lst ((fP f).map tD)),some (tD w),none] st (.gc (.sli (.var 1) (some (.lit (.int 1))) none)) = some (.lst (r.map tD),st):=fun n=>by
    have c1 : cut ((fP f).map tD) (some 1) none = r.map tD:=by rw [e]; exact cut_drop _ 1 (by simp)
    have:=gc_sli (c:=callD fns (m + 5)) (n:=n + 2) (τ:=[some (tD (fX f)),some (.lst ((fP f).map tD)),some (tD w),none]) (st:=st) (a:=.var 1) (lo:=some (.lit (.int 1))) (hi:=none) (xs:=(fP f).map tD) (l:=some 1) (h:=none) rfl rfl rfl (by rw [c1]; exact nl_tD _)
    rw [c1] at this
    exact this
  cases f with
  | vein ss cs =>
    obtain ⟨rfl,rfl⟩ : wVein = w∧sT ss::cs.map cT = r:=by injection e with a b; exact ⟨a,b⟩
    refine exs_ret ((stepEx_ite_t (st':=st) (by rw [t1,beq_self_eq_true])).trans ?_)
    rw [ex_k]
    refine exs_ret ?_
    simp only [stepEx]
    rw [ev_k]
    simp only [stepEv,evs,sl,Option.bind_some,call_k,rvein_ok m st ss cs h,Option.map_some]
  | word w' ks =>
    obtain ⟨rfl,rfl⟩ : w' = w∧ks.map natD = r:=by injection e with a b; exact ⟨a,b⟩
    have hw:=words_gd _ h.1
    obtain ⟨w1,w5,w6⟩:=words_ok _ h.1
    simp only at w1 w5 w6
    rw [exs_cons (τ':=[some (tD (fX (.word w' ks))),some (.lst ((fP (.word w' ks)).map tD)),some (tD w'),none]) (s':=st) (by refine (stepEx_ite_f (st':=st) ?_).trans rfl; rw [t1,beq_eq_false_iff_ne.mpr hw.2.1])]
    rw [exs_cons (τ':=[some (tD (fX (.word w' ks))),some (.lst ((fP (.word w' ks)).map tD)),some (tD w'),none]) (s':=st) (by
      refine (stepEx_ite_f (st':=st) ?_).trans rfl
      show (rn fns (m + 5) (0 + 20)).tst [some (tD (fX (.word w' ks))),some (.lst ((fP (.word w' ks)).map tD)),some (.str (mk w')),none] st _ = _
      simp only [tst_k,stepTst,ginR,ev_k,stepEv,List.getElem?_cons_succ,List.getElem?_cons_zero,Option.bind_some,w1,truth,bne_self_eq_false,Option.map_some])]
    have en:=nums_ok hFig hNum hNums (m + 2) st ks h.2 (by have:=hw.2.2; simp only at this; omega)
    have g1 : ∀ n : Nat,(rn fns (m + 5) (n + 10)).ev [some (tD (fX (.word w' ks))),some (.lst ((fP (.word w' ks)).map tD)),some (tD w'),none] st (.gc (.call 2 [(.gc (.sli (.var 1) (some (.lit (.int 1))) none))])) = some (.lst (ks.map iD),st):=fun n=>by
      refine gc_call (n:=n + 7) (ds:=[.lst ((ks.map natD).map tD)]) ?_ en (nl_iD _)
      simp only [evs,sl,Option.bind_some]
    rw [exs_cons (τ':=[some (tD (fX (.word w' ks))),some (.lst ((fP (.word w' ks)).map tD)),some (tD w'),some (.lst (ks.map iD))]) (s':=st) (by simp only [stepEx,g1,Option.bind_some]; rfl)]
    obtain ⟨kk,ds,hf,hd⟩:=ask_find (w:=w') (by omega)
    have hdl : ds.length = ks.length:=by omega
    generalize (some (D.lst ((fP (.word w' ks)).map tD))) = L
    have gi : ∀ n : Nat,(rn fns (m + 5) (n + 4)).ev [some (tD (fX (.word w' ks))),L,some (tD w'),some (.lst (ks.map iD))] st (.bcall .len [(.gidx (PySem.Str.ofString "ASKS") askKeys askVals (.var 2))]) = some (.int (ks.length : Int),st):=fun n=>by
      show (rn fns (m + 5) (n + 4)).ev [some (tD (fX (.word w' ks))),L,some (.str (mk w')),some (.lst (ks.map iD))] st _ = _
      simp only [ev_k,stepEv,evs,List.getElem?_cons_succ,List.getElem?_cons_zero,Option.bind_some,hf,Option.map_some,bfun,bLen,hdl]
    have gl : ∀ n : Nat,(rn fns (m + 5) (n + 4)).ev [some (tD (fX (.word w' ks))),L,some (tD w'),some (.lst (ks.map iD))] st (.bcall .len [(.var 3)]) = some (.int (ks.length : Int),st):=fun n=>by
      simp only [ev_k,stepEv,evs,List.getElem?_cons_succ,List.getElem?_cons_zero,Option.bind_some,bfun,bLen,seqAt,Option.map_some,List.length_map]
    rw [exs_cons (τ':=[some (tD (fX (.word w' ks))),L,some (tD w'),some (.lst (ks.map iD))]) (s':=st) (by
      refine (stepEx_ite_f (st':=st) ?_).trans rfl
      rw [tst_k]
      simp only [stepTst,gi,gl,Option.bind_some,cmpD,neD,eqD_ii,Option.map_some,beq_self_eq_true,Bool.not_true])]
    refine exs_ret ?_
    have hadd : ∀ S,binop S .Add (.tup [tD w']) (.tup (ks.map iD)) = some (fD (.word w' ks),S):=fun S=>by
      simp only [binop]
      rw [if_neg (by have:=hw.2.2; simp only at this; unfold lim; simp; omega)]
      rfl
    have b1 : ∀ n : Nat,(rn fns (m + 5) (n + 4)).ev [some (tD (fX (.word w' ks))),L,some (tD w'),some (.lst (ks.map iD))] st (.tup [(.var 2)]) = some (.tup [tD w'],st):=fun n=>rfl
    have b2 : ∀ n : Nat,(rn fns (m + 5) (n + 4)).ev [some (tD (fX (.word w' ks))),L,some (tD w'),some (.lst (ks.map iD))] st (.bcall .tuple [(.var 3)]) = some (.tup (ks.map iD),st):=fun n=>rfl
    simp only [stepEx]
    rw [ev_k]
    simp only [stepEv,b1,b2,Option.bind_some,hadd,Option.map_some]
end K07
end
section
set_option linter.all false
set_option maxRecDepth 10000
set_option maxHeartbeats 4000000
namespace K07
open M
open PySem (Str)
theorem dex {ns : List Int} (hn : ns.length ≤ 63) {N : Nat} (hN : 1 ≤ N) (k j many : Int) (hj : 0 ≤ j) (hj2 : j < 1000) (hm : 0 < many) : ∃ v,0 ≤ v∧v < many∧∀ st,callD fns N 10 [sD ns,.int k,.int j,.int many] st = some (.int v,st) :=
  ⟨drawV ns k j many,drawV_lo ns k j hm,drawV_hi ns k j hm,fun st=>drw hDraw hN hn st k j many hj (by omega) hm⟩
theorem pk {c : CF} {n : Nat} {τ : Sl} {st : Store} {es : List E} {e : E} (xs : List Int) {i : Int} (hes : evs ((runK c n).ev τ) es st = some (xs.map D.int,st)) (he : (runK c (n + 2)).ev τ st e = some (.int i,st)) (h0 : 0 ≤ i) (h1 : i < xs.length) (hl : xs.length ≤ 1000) :
    (runK c (n + 3)).ev τ st (.idx (.gc (.lst es)) e) = some (.int (xs.getD i.toNat 0),st):=by
  have l:=gc_lit hes (by rw [List.length_map]; exact hl) (noLocs_map fun _ _=>rfl)
  rw [ev_k]
  simp only [stepEv,l,he,Option.bind_some,ix_lst D.int xs 0 i h0 h1,Option.map_some]
section
variable {ns : List Int} (hn : ns.length ≤ 63) {m : Nat}
include hn
theorem who_ok (hm : 2 ≤ m) (k j : Int) (hj : 0 ≤ j) (hj2 : j < 900) : ∃ i,1 ≤ i∧i ≤ 40∧∀ st,callD fns m 16 [sD ns,.int k,.int j] st = some (.int i,st):=by
  obtain ⟨m,rfl⟩ : ∃ q,m = q + 1:=⟨m - 1,by omega⟩
  obtain ⟨a,a0,a1,ea⟩:=dex hn (N:=m) (by omega) k (j + 1) 6 (by omega) (by omega) (by omega)
  have hm1:=getD_mem ([40,4,4,4,4,4] : List Int) 0 a a0 a1
  have pq:=fun (n : Nat) (st : Store)=>pk (c:=callD fns m) (n:=n + 6) (τ:=[some (sD ns),some (.int k),some (.int j)]) (st:=st) (es:=[(.lit (.int 40)),(.lit (.int 4)),(.lit (.int 4)),(.lit (.int 4)),(.lit (.int 4)),(.lit (.int 4))]) (e:=.gc (.call 10 [(.var 0),(.var 1),(.bin .Add (.var 2) (.lit (.int 1))),(.lit (.int 6))])) [40,4,4,4,4,4] (i:=a) rfl (gc_call (n:=n + 5) (ds:=[sD ns,.int k,.int (j + 1),.int 6]) rfl (ea st) rfl) a0 a1 (by simp)
  generalize ([40,4,4,4,4,4] : List Int).getD a.toNat 0 = q at hm1 pq
  simp only [List.mem_cons,List.not_mem_nil,or_false] at hm1
  obtain ⟨v,v0,v1,ev⟩:=dex hn (N:=m) (by omega) k j q (by omega) (by omega) (by omega)
  refine ⟨1 + v,by omega,by omega,fun st=>?_⟩
  refine call_of (0 + 20) (F:=f_law_who) rfl rfl rfl ?_
  show exs (stepEx (rn fns m (0 + 20))) b_law_who [some (sD ns),some (.int k),some (.int j)] st = _
  unfold b_law_who
  refine exs_ret ?_
  have g : (rn fns m (0 + 19)).ev [some (sD ns),some (.int k),some (.int j)] st (.gc (.call 10 [(.var 0),(.var 1),(.var 2),(.idx (.gc (.lst [(.lit (.int 40)),(.lit (.int 4)),(.lit (.int 4)),(.lit (.int 4)),(.lit (.int 4)),(.lit (.int 4))])) (.gc (.call 10 [(.var 0),(.var 1),(.bin .Add (.var 2) (.lit (.int 1))),(.lit (.int 6))])))])) = some (.int v,st):=by
    refine gc_call (n:=0 + 16) (ds:=[sD ns,.int k,.int j,.int q]) ?_ (ev st) rfl
    have p:=pq 8 st
    have y0 : ∀ n : Nat,(rn fns m (n + 1)).ev [some (sD ns),some (.int k),some (.int j)] st (.var 0) = some (sD ns,st):=fun n=>rfl
    have y1 : ∀ n : Nat,(rn fns m (n + 1)).ev [some (sD ns),some (.int k),some (.int j)] st (.var 1) = some (.int k,st):=fun n=>rfl
    have y2 : ∀ n : Nat,(rn fns m (n + 1)).ev [some (sD ns),some (.int k),some (.int j)] st (.var 2) = some (.int j,st):=fun n=>rfl
    simp only [evs,y0,y1,y2,p,Option.bind_some]
  have g1 : (rn fns m (0 + 19)).ev [some (sD ns),some (.int k),some (.int j)] st (.lit (.int 1)) = some (.int 1,st):=rfl
  simp only [stepEx]
  rw [ev_k]
  simp only [stepEv,g,g1,Option.bind_some,pA,Option.map_some]
theorem pick_ok (hm : 2 ≤ m) (k j : Int) (hj : 0 ≤ j) (hj2 : j < 900) (xs : List Int) (hx : ∀ x ∈ xs,1 ≤ x∧x ≤ 400) (hl : xs.length ≤ 100) : ∃ i,1 ≤ i∧i ≤ 400∧∀ st,callD fns m 17 [sD ns,.int k,.int j,.lst (xs.map D.int)] st = some (.int i,st):=by
  obtain ⟨m,rfl⟩ : ∃ q,m = q + 1:=⟨m - 1,by omega⟩
  obtain ⟨a,a0,a1,ea⟩:=dex hn (N:=m) (by omega) k j 14 (by omega) (by omega) (by omega)
  obtain ⟨b,b0,b1,eb⟩:=dex hn (N:=m) (by omega) k (j + 1) 400 (by omega) (by omega) (by omega)
  have ln : ∀ S,bLen S [.lst (xs.map D.int)] = some (.int (xs.length : Int),S):=fun S=>by simp only [bLen,seqAt,Option.map_some,List.length_map]
  have t1 : ∀ st (n : Nat),(rn fns m (n + 10)).tst [some (sD ns),some (.int k),some (.int j),some (.lst (xs.map D.int))] st (.or (.cmp .Eq (.bcall .len [(.var 3)]) (.lit (.int 0))) (.cmp .Eq (.gc (.call 10 [(.var 0),(.var 1),(.var 2),(.lit (.int 14))])) (.lit (.int 0)))) = some (decide (xs.length = 0∨a = 0),st):=fun st n=>by
    simp only [tst_k,stepTst,ev_k,stepEv,evs,List.getElem?_cons_succ,List.getElem?_cons_zero,Option.bind_some,bfun,ln,call_k,ea,Option.map_some,gc_int,cmpD,eqD_ii]
    by_cases h : xs.length = 0
    · simp [h]
    · have : ((xs.length : Int) == 0) = false:=by rw [beq_eq_false_iff_ne]; omega
      simp only [this,Bool.false_eq_true,if_false,h,false_or]
      by_cases h2 : a = 0 <;> simp [h2]
  by_cases h : xs.length = 0∨a = 0
  · refine ⟨1 + b,by omega,by omega,fun st=>?_⟩
    refine call_of (0 + 20) (F:=f_law_pick) rfl rfl rfl ?_
    show exs (stepEx (rn fns m (0 + 20))) b_law_pick [some (sD ns),some (.int k),some (.int j),some (.lst (xs.map D.int))] st = _
    unfold b_law_pick
    refine exs_ret ((stepEx_ite_t (st':=st) (by rw [t1,decide_eq_true h])).trans ?_)
    rw [ex_k]
    refine exs_ret ?_
    simp only [stepEx,ev_k,stepEv,evs,List.getElem?_cons_succ,List.getElem?_cons_zero,Option.bind_some,call_k,pA,eb,Option.map_some,gc_int]
  · have hp : 0 < xs.length:=by omega
    obtain ⟨c,c0,c1,ec⟩:=dex hn (N:=m) (by omega) k (j + 1) (xs.length : Int) (by omega) (by omega) (by omega)
    have hx':=hx _ (getD_mem xs 0 c c0 c1)
    refine ⟨xs.getD c.toNat 0,hx'.1,hx'.2,fun st=>?_⟩
    refine call_of (0 + 20) (F:=f_law_pick) rfl rfl rfl ?_
    show exs (stepEx (rn fns m (0 + 20))) b_law_pick [some (sD ns),some (.int k),some (.int j),some (.lst (xs.map D.int))] st = _
    unfold b_law_pick
    rw [exs_cons (τ':=[some (sD ns),some (.int k),some (.int j),some (.lst (xs.map D.int))]) (s':=st) (by refine (stepEx_ite_f (st':=st) ?_).trans rfl; rw [t1,decide_eq_false h])]
    refine exs_ret ?_
    simp only [stepEx,ev_k,stepEv,evs,List.getElem?_cons_succ,List.getElem?_cons_zero,Option.bind_some,bfun,ln,call_k,pA,ec,Option.map_some,gc_int,ix_lst D.int xs 0 c c0 c1]
omit hn in
theorem good_word {w : List Nat} {is : List Int} (hw : (w,is.length) ∈ wordsN) (h : ∀ i ∈ is,0 ≤ i∧i < 10 ^ 20) : ∃ f : Fact,f.ok∧fD f = .tup (tD w::is.map D.int):=by
  refine ⟨.word w (is.map Int.toNat),⟨by rw [List.length_map]; exact hw,fun k hk=>?_⟩,?_⟩
  · obtain ⟨i,hi,rfl⟩:=List.mem_map.mp hk
    have:=h i hi
    unfold nSm
    omega
  · show D.tup (tD w::(is.map Int.toNat).map iD) = _
    rw [List.map_map]
    congr 2
    refine List.map_congr_left fun i hi=>?_
    show D.int ((i.toNat : Nat) : Int) = D.int i
    rw [Int.toNat_of_nonneg (h i hi).1]
omit hn in
theorem xPay : PySem.Str.ofString "pay" = mk [112,97,121]:=by decide +kernel
omit hn in
theorem pMod {a b : Int} (S : Store) (h : 0 < b) : binop S .Mod (.int a) (.int b) = some (.int (a % b),S):=by
  simp only [binop]
  rw [if_pos h]
omit hn in
theorem pDiv {a b : Int} (S : Store) (h : 0 < b) (h2 : b < 2 ^ 64) : binop S .FloorDiv (.int a) (.int b) = some (.int (a / b),S):=by
  simp only [binop]
  rw [if_pos ⟨h,h2⟩]
theorem pay_ok (hm : 3 ≤ m) (k : Int) : ∃ f : Fact,f.ok∧∀ st,callD fns m 22 [sD ns,.int k] st = some (fD f,st):=by
  obtain ⟨m,rfl⟩ : ∃ q,m = q + 1:=⟨m - 1,by omega⟩
  obtain ⟨g,g0,g1,eg⟩:=who_ok hn (m:=m) (by omega) k 1 (by decide) (by decide)
  obtain ⟨t,t0,t1,et⟩:=who_ok hn (m:=m) (by omega) k 3 (by decide) (by decide)
  obtain ⟨a,a0,a1,ea⟩:=dex hn (N:=m) (by omega) k 6 2 (by decide) (by decide) (by decide)
  have hm1:=getD_mem ([9,10 ^ 6] : List Int) 0 a a0 a1
  have pq:=fun (n : Nat) (τ : Sl) (st : Store) (h0 : τ[0]? = some (some (sD ns))) (h1 : τ[1]? = some (some (.int k)))=>pk (c:=callD fns m) (n:=n + 6) (τ:=τ) (st:=st) (es:=[(.lit (.int 9)),(.bin .Pow (.lit (.int 10)) (.lit (.int 6)))]) (e:=.gc (.call 10 [(.var 0),(.var 1),(.lit (.int 6)),(.lit (.int 2))])) [9,10 ^ 6] (i:=a) rfl (gc_call (n:=n + 5) (ds:=[sD ns,.int k,.int 6,.int 2]) (by simp only [evs,ev_k,stepEv,h0,h1,Option.bind_some]) (ea st) rfl) a0 a1 (by simp)
  generalize ([9,10 ^ 6] : List Int).getD a.toNat 0 = q at hm1 pq
  simp only [List.mem_cons,List.not_mem_nil,or_false] at hm1
  obtain ⟨v,v0,v1,ev⟩:=dex hn (N:=m) (by omega) k 5 q (by omega) (by omega) (by omega)
  obtain ⟨u,u0,u1,hu⟩ : ∃ u : Int,0 ≤ u∧u < 10 ^ 20∧u = if t = g then g % 40 + 1 else t:=⟨_,by split <;> omega,by split <;> omega,rfl⟩
  obtain ⟨f,hf,ef⟩:=good_word (w:=[112,97,121]) (is:=[g,u,1 + v]) (by simp [wordsN]) (fun i hi=>by
    simp only [List.mem_cons,List.not_mem_nil,or_false] at hi
    rcases hi with rfl | rfl | rfl <;> omega)
  refine ⟨f,hf,fun st=>?_⟩
  rw [ef]
  refine call_of (0 + 20) (F:=f_law_pay) rfl rfl rfl ?_
  show exs (stepEx (rn fns m (0 + 20))) b_law_pay [some (sD ns),some (.int k),none,none] st = _
  unfold b_law_pay
  rw [exs_cons (τ':=[some (sD ns),some (.int k),some (.int g),none]) (s':=st) (by
    simp only [stepEx,ev_k,stepEv,evs,List.getElem?_cons_succ,List.getElem?_cons_zero,Option.bind_some,call_k,eg,Option.map_some,gc_int]
    rfl)]
  rw [exs_cons (τ':=[some (sD ns),some (.int k),some (.int g),some (.int t)]) (s':=st) (by
    simp only [stepEx,ev_k,stepEv,evs,List.getElem?_cons_succ,List.getElem?_cons_zero,Option.bind_some,call_k,et,Option.map_some,gc_int]
    rfl)]
  rw [exs_cons (τ':=[some (sD ns),some (.int k),some (.int g),some (.int u)]) (s':=st) (by
    have tt : ∀ n : Nat,(rn fns m (n + 10)).tst [some (sD ns),some (.int k),some (.int g),some (.int t)] st (.cmp .Eq (.var 3) (.var 2)) = some (t == g,st):=fun n=>by
      simp only [tst_k,stepTst,ev_k,stepEv,List.getElem?_cons_succ,List.getElem?_cons_zero,Option.bind_some,cmpD,eqD_ii,Option.map_some]
    by_cases h : t = g
    · rw [if_pos h] at hu
      refine (stepEx_ite_t (st':=st) (by rw [tt,h,beq_self_eq_true])).trans ?_
      rw [ex_k,exs_cons (τ':=[some (sD ns),some (.int k),some (.int g),some (.int u)]) (s':=st) (by
        simp only [stepEx,ev_k,stepEv,List.getElem?_cons_succ,List.getElem?_cons_zero,Option.bind_some,pMod (a:=g) (b:=40) _ (by omega),pA]
        rw [hu]
        rfl)]
      rfl
    · rw [if_neg h] at hu
      refine (stepEx_ite_f (st':=st) (by rw [tt,beq_eq_false_iff_ne.mpr h])).trans ?_
      rw [hu]
      rfl)]
  generalize hT : ([some (sD ns),some (.int k),some (.int g),some (.int u)] : Sl) = T
  have z0 : T[0]? = some (some (sD ns)):=by rw [← hT]; rfl
  have z1 : T[1]? = some (some (.int k)):=by rw [← hT]; rfl
  have z2 : T[2]? = some (some (.int g)):=by rw [← hT]; rfl
  have z3 : T[3]? = some (some (.int u)):=by rw [← hT]; rfl
  have gg : (rn fns m (0 + 18)).ev T st (.gc (.call 10 [(.var 0),(.var 1),(.lit (.int 5)),(.idx (.gc (.lst [(.lit (.int 9)),(.bin .Pow (.lit (.int 10)) (.lit (.int 6)))])) (.gc (.call 10 [(.var 0),(.var 1),(.lit (.int 6)),(.lit (.int 2))])))])) = some (.int v,st):=by
    refine gc_call (n:=0 + 15) (ds:=[sD ns,.int k,.int 5,.int q]) ?_ (ev st) rfl
    have p:=pq 7 T st z0 z1
    have y0 : ∀ n : Nat,(rn fns m (n + 1)).ev T st (.var 0) = some (sD ns,st):=fun n=>by rw [ev_k]; simp only [stepEv,z0]
    have y1 : ∀ n : Nat,(rn fns m (n + 1)).ev T st (.var 1) = some (.int k,st):=fun n=>by rw [ev_k]; simp only [stepEv,z1]
    have y2 : ∀ n : Nat,(rn fns m (n + 1)).ev T st (.lit (.int 5)) = some (.int 5,st):=fun n=>rfl
    simp only [evs,y0,y1,y2,p,Option.bind_some]
  have g3 : (rn fns m (0 + 19)).ev T st (.bin .Add (.lit (.int 1)) (.gc (.call 10 [(.var 0),(.var 1),(.lit (.int 5)),(.idx (.gc (.lst [(.lit (.int 9)),(.bin .Pow (.lit (.int 10)) (.lit (.int 6)))])) (.gc (.call 10 [(.var 0),(.var 1),(.lit (.int 6)),(.lit (.int 2))])))]))) = some (.int (1 + v),st):=by
    have g1 : (rn fns m (0 + 18)).ev T st (.lit (.int 1)) = some (.int 1,st):=rfl
    rw [ev_k]
    simp only [stepEv,gg,g1,Option.bind_some,pA]
  refine exs_ret ?_
  have b0 : ∀ n : Nat,(rn fns m (n + 1)).ev T st (.lit (.str (PySem.Str.ofString "pay"))) = some (tD [112,97,121],st):=fun n=>by rw [xPay]; rfl
  have b1 : ∀ n : Nat,(rn fns m (n + 1)).ev T st (.var 2) = some (.int g,st):=fun n=>by rw [ev_k]; simp only [stepEv,z2]
  have b2 : ∀ n : Nat,(rn fns m (n + 1)).ev T st (.var 3) = some (.int u,st):=fun n=>by rw [ev_k]; simp only [stepEv,z3]
  simp only [stepEx]
  rw [ev_k]
  simp only [stepEv,evs,b0,b1,b2,g3,Option.bind_some]
  rfl
omit hn in
theorem sort2 (a b : Int) : ∃ lo hi,sortInt [a,b] = [lo,hi]∧lo ≤ hi∧((lo = a∧hi = b)∨(lo = b∧hi = a)):=by
  by_cases h : a ≤ b
  · exact ⟨a,b,by simp [sortInt,insInt,h],h,.inl ⟨rfl,rfl⟩⟩
  · exact ⟨b,a,by simp [sortInt,insInt,h],by omega,.inr ⟨rfl,rfl⟩⟩
omit hn in
theorem gc_sort {c : CF} {n : Nat} {τ : Sl} {st : Store} {e1 e2 : E} {a b lo hi : Int} (h1 : (runK c n).ev τ st e1 = some (.int a,st)) (h2 : (runK c n).ev τ st e2 = some (.int b,st)) (hs : sortInt [a,b] = [lo,hi]) : (runK c (n + 4)).ev τ st (.gc (.bcall .sorted [(.gc (.lst [e1,e2]))])) = some (.lst [.int lo,.int hi],st):=by
  refine gc_evL (n:=n + 3) ?_ rfl
  have l:=gc_lit (c:=c) (n:=n) (τ:=τ) (st:=st) (es:=[e1,e2]) (ds:=[.int a,.int b]) (by simp only [evs,h1,h2,Option.bind_some]) (by simp) rfl
  rw [ev_k]
  have ls : ¬ 64 ≤ [D.int a,D.int b].length:=by simp
  simp only [stepEv,evs,l,Option.bind_some,bfun,bSorted,seqAt,ls,if_false,asInts,Option.map_some,hs]
  rfl
theorem rect_ok (hm : 2 ≤ m) (k j wide tall : Int) (hj : 0 ≤ j) (hj2 : j < 900) (hw : 0 < wide) (ht : 0 < tall) : ∃ a b c d : Int,0 ≤ a∧a < wide∧0 ≤ b∧b < tall∧0 ≤ c∧c < wide∧0 ≤ d∧d < tall∧∀ st,callD fns m 13 [sD ns,.int k,.int j,.int wide,.int tall] st = some (.tup [.int a,.int b,.int c,.int d],st):=by
  obtain ⟨m,rfl⟩ : ∃ q,m = q + 1:=⟨m - 1,by omega⟩
  obtain ⟨r1,p1,q1,e1⟩:=dex hn (N:=m) (by omega) k j wide (by omega) (by omega) hw
  obtain ⟨r2,p2,q2,e2⟩:=dex hn (N:=m) (by omega) k (j + 1) wide (by omega) (by omega) hw
  obtain ⟨r3,p3,q3,e3⟩:=dex hn (N:=m) (by omega) k (j + 2) tall (by omega) (by omega) ht
  obtain ⟨r4,p4,q4,e4⟩:=dex hn (N:=m) (by omega) k (j + 3) tall (by omega) (by omega) ht
  obtain ⟨a,c,s1,o1,z1⟩:=sort2 r1 r2
  obtain ⟨b,d,s2,o2,z2⟩:=sort2 r3 r4
  refine ⟨a,b,c,d,by omega,by omega,by omega,by omega,by omega,by omega,by omega,by omega,fun st=>?_⟩
  refine call_of (0 + 20) (F:=f_law_rect) rfl rfl rfl ?_
  show exs (stepEx (rn fns m (0 + 20))) b_law_rect [some (sD ns),some (.int k),some (.int j),some (.int wide),some (.int tall),none,none] st = _
  unfold b_law_rect
  have x1:=gc_sort (c:=callD fns m) (n:=0 + 16) (τ:=[some (sD ns),some (.int k),some (.int j),some (.int wide),some (.int tall),none,none]) (st:=st) (e1:=.call 10 [(.var 0),(.var 1),(.var 2),(.var 3)]) (e2:=.call 10 [(.var 0),(.var 1),(.bin .Add (.var 2) (.lit (.int 1))),(.var 3)]) (e1 st) (e2 st) s1
  rw [exs_cons (τ':=[some (sD ns),some (.int k),some (.int j),some (.int wide),some (.int tall),some (.lst [.int a,.int c]),none]) (s':=st) (by simp only [stepEx,x1,Option.bind_some]; rfl)]
  have x2:=gc_sort (c:=callD fns m) (n:=0 + 16) (τ:=[some (sD ns),some (.int k),some (.int j),some (.int wide),some (.int tall),some (.lst [.int a,.int c]),none]) (st:=st) (e1:=.call 10 [(.var 0),(.var 1),(.bin .Add (.var 2) (.lit (.int 2))),(.var 4)]) (e2:=.call 10 [(.var 0),(.var 1),(.bin .Add (.var 2) (.lit (.int 3))),(.var 4)]) (e3 st) (e4 st) s2
  rw [exs_cons (τ':=[some (sD ns),some (.int k),some (.int j),some (.int wide),some (.int tall),some (.lst [.int a,.int c]),some (.lst [.int b,.int d])]) (s':=st) (by simp only [stepEx,x2,Option.bind_some]; rfl)]
  exact exs_ret rfl
noncomputable def zD (w t d : Int) : D:=.tup [.int w,.int t,.int d]
theorem size_ok (hm : 2 ≤ m) (k : Int) : ∃ w t d : Int,1 ≤ w∧w ≤ 24∧1 ≤ t∧t ≤ 24∧0 ≤ d∧d ≤ 12∧∀ st,callD fns m 12 [sD ns,.int k] st = some (zD w t d,st):=by
  obtain ⟨m,rfl⟩ : ∃ q,m = q + 1:=⟨m - 1,by omega⟩
  obtain ⟨a,a0,a1,ea⟩:=dex hn (N:=m) (by omega) k 0 6 (by decide) (by decide) (by decide)
  obtain ⟨b,b0,b1,eb⟩:=dex hn (N:=m) (by omega) k 1 6 (by decide) (by decide) (by decide)
  obtain ⟨c,c0,c1,ec⟩:=dex hn (N:=m) (by omega) k 2 6 (by decide) (by decide) (by decide)
  obtain ⟨x,x0,x1,ex⟩:=dex hn (N:=m) (by omega) k 3 12 (by decide) (by decide) (by decide)
  let L : List (Int × Int × Int):=[(24,1 + (1 + b) / 3,c / 2),(1 + (1 + a) / 3,24,c / 2),(1 + (1 + a) / 3,1 + (1 + b) / 3,12),(1 + a,1 + b,c)]
  let g : Int × Int × Int→D:=fun p=>zD p.1 p.2.1 p.2.2
  let y : Int:=if x < 3 then x else 3
  have y0 : 0 ≤ y:=by show 0 ≤ (if x < 3 then x else 3); split <;> omega
  have y1 : y < (L.length : Nat):=by show (if x < 3 then x else 3) < (4 : Int); split <;> omega
  have hp:=getD_mem L (24,1,0) y y0 y1
  have hi:=ix_lst g L (24,1,0) y y0 y1
  generalize L.getD y.toNat (24,1,0) = p at hp hi
  have bd : 1 ≤ p.1∧p.1 ≤ 24∧1 ≤ p.2.1∧p.2.1 ≤ 24∧0 ≤ p.2.2∧p.2.2 ≤ 12:=by
    simp only [L,List.mem_cons,List.not_mem_nil,or_false] at hp
    rcases hp with rfl | rfl | rfl | rfl <;> simp only <;> omega
  refine ⟨p.1,p.2.1,p.2.2,bd.1,bd.2.1,bd.2.2.1,bd.2.2.2.1,bd.2.2.2.2.1,bd.2.2.2.2.2,fun st=>?_⟩
  refine call_of (0 + 20) (F:=f_law_size) rfl rfl rfl ?_
  show exs (stepEx (rn fns m (0 + 20))) b_law_size [some (sD ns),some (.int k),none,none,none,none] st = _
  unfold b_law_size
  rw [exs_cons (τ':=[some (sD ns),some (.int k),some (.int (1 + a)),none,none,none]) (s':=st) (by
    simp only [stepEx,ev_k,stepEv,evs,List.getElem?_cons_succ,List.getElem?_cons_zero,Option.bind_some,call_k,ea,Option.map_some,gc_int,pA]
    rfl)]
  rw [exs_cons (τ':=[some (sD ns),some (.int k),some (.int (1 + a)),some (.int (1 + b)),none,none]) (s':=st) (by
    simp only [stepEx,ev_k,stepEv,evs,List.getElem?_cons_succ,List.getElem?_cons_zero,Option.bind_some,call_k,eb,Option.map_some,gc_int,pA]
    rfl)]
  rw [exs_cons (τ':=[some (sD ns),some (.int k),some (.int (1 + a)),some (.int (1 + b)),some (.int c),none]) (s':=st) (by
    simp only [stepEx,ev_k,stepEv,evs,List.getElem?_cons_succ,List.getElem?_cons_zero,Option.bind_some,call_k,ec,Option.map_some,gc_int]
    rfl)]
  have l1 : (rn fns m (0 + 20)).ev [some (sD ns),some (.int k),some (.int (1 + a)),some (.int (1 + b)),some (.int c),none] st (.gc (.lst [(.tup [(.lit (.int 24)),(.bin .Add (.lit (.int 1)) (.bin .FloorDiv (.var 3) (.lit (.int 3)))),(.bin .FloorDiv (.var 4) (.lit (.int 2)))]),(.tup [(.bin .Add (.lit (.int 1)) (.bin .FloorDiv (.var 2) (.lit (.int 3)))),(.lit (.int 24)),(.bin .FloorDiv (.var 4) (.lit (.int 2)))])])) = some (.lst [zD 24 (1 + (1 + b) / 3) (c / 2),zD (1 + (1 + a) / 3) 24 (c / 2)],st):=gc_lit (n:=0 + 18) rfl (by simp) rfl
  rw [exs_cons (τ':=[some (sD ns),some (.int k),some (.int (1 + a)),some (.int (1 + b)),some (.int c),some (.lst [zD 24 (1 + (1 + b) / 3) (c / 2),zD (1 + (1 + a) / 3) 24 (c / 2)])]) (s':=st) (by simp only [stepEx,l1,Option.bind_some]; rfl)]
  generalize hT : ([some (sD ns),some (.int k),some (.int (1 + a)),some (.int (1 + b)),some (.int c),some (.lst [zD 24 (1 + (1 + b) / 3) (c / 2),zD (1 + (1 + a) / 3) 24 (c / 2)])] : Sl) = T
  have l2 : (rn fns m (0 + 18)).ev T st (.gc (.lst [(.tup [(.bin .Add (.lit (.int 1)) (.bin .FloorDiv (.var 2) (.lit (.int 3)))),(.bin .Add (.lit (.int 1)) (.bin .FloorDiv (.var 3) (.lit (.int 3)))),(.lit (.int 12))]),(.tup [(.var 2),(.var 3),(.var 4)])])) = some (.lst [zD (1 + (1 + a) / 3) (1 + (1 + b) / 3) 12,zD (1 + a) (1 + b) c],st):=by
    rw [← hT]
    exact gc_lit (n:=0 + 16) rfl (by simp) rfl
  have l3 : (rn fns m (0 + 20)).ev T st (.gc (.bin .Add (.var 5) (.gc (.lst [(.tup [(.bin .Add (.lit (.int 1)) (.bin .FloorDiv (.var 2) (.lit (.int 3)))),(.bin .Add (.lit (.int 1)) (.bin .FloorDiv (.var 3) (.lit (.int 3)))),(.lit (.int 12))]),(.tup [(.var 2),(.var 3),(.var 4)])])))) = some (.lst (L.map g),st) :=
    gc_add (n:=0 + 18) (x:=.lst [zD 24 (1 + (1 + b) / 3) (c / 2),zD (1 + (1 + a) / 3) 24 (c / 2)]) (by rw [← hT]; rfl) l2 rfl rfl (by simp) rfl
  rw [exs_cons (τ':=[some (sD ns),some (.int k),some (.int (1 + a)),some (.int (1 + b)),some (.int c),some (.lst (L.map g))]) (s':=st) (by simp only [stepEx,l3,Option.bind_some]; rw [← hT]; rfl)]
  generalize L.map g = G at hi
  refine exs_ret ?_
  have mn : ∀ n : Nat,(rn fns m (n + 8)).ev [some (sD ns),some (.int k),some (.int (1 + a)),some (.int (1 + b)),some (.int c),some (.lst G)] st (.bcall .min [(.lit (.int 3)),(.gc (.call 10 [(.var 0),(.var 1),(.lit (.int 3)),(.lit (.int 12))]))]) = some (.int y,st):=fun n=>by
    simp only [ev_k,stepEv,evs,List.getElem?_cons_succ,List.getElem?_cons_zero,Option.bind_some,call_k,ex,Option.map_some,gc_int,bfun,bMin]
    rfl
  have v5 : ∀ n : Nat,(rn fns m (n + 1)).ev [some (sD ns),some (.int k),some (.int (1 + a)),some (.int (1 + b)),some (.int c),some (.lst G)] st (.var 5) = some (.lst G,st):=fun n=>rfl
  simp only [stepEx]
  rw [ev_k]
  simp only [stepEv,mn,v5,Option.bind_some,hi,Option.map_some]
  rfl
end
end K07
end
section
set_option linter.all false
set_option maxRecDepth 10000
set_option maxHeartbeats 4000000
namespace K07
open M
open PySem (Str)
section
variable {ns : List Int} (hn : ns.length ≤ 63) {m : Nat}
include hn
theorem steps_ok (hm : 2 ≤ m) (k j e : Int) (hj : 0 ≤ j) (hj2 : j < 900) (he : 0 ≤ e) (he2 : e ≤ 12) : ∃ ss : List Nat,(∀ s ∈ ss,s < 10)∧ss.length ≤ 20∧∀ st,callD fns m 14 [sD ns,.int k,.int j,.int e] st = some (.tup (ss.map iD),st):=by
  obtain ⟨m,rfl⟩ : ∃ q,m = q + 1:=⟨m - 1,by omega⟩
  have hd : ∀ i : Nat,i < e.toNat→∃ s : Nat,s < 10∧∀ st (n : Nat),(rn fns m (n + 9)).ev [some (.int (0 + (i : Int))),some (sD ns),some (.int k),some (.int j)] st (.idx (.gc (.lst [(.lit (.int 0)),(.lit (.int 1)),(.lit (.int 2)),(.lit (.int 3)),(.lit (.int 4)),(.lit (.int 0)),(.lit (.int 0))])) (.gc (.call 10 [(.var 1),(.var 2),(.bin .Add (.var 3) (.var 0)),(.lit (.int 7))]))) = some (iD s,st):=fun i hi=>by
    obtain ⟨a,a0,a1,ea⟩:=dex hn (N:=m) (by omega) k (j + (0 + (i : Int))) 7 (by omega) (by omega) (by omega)
    have hm1:=getD_mem ([0,1,2,3,4,0,0] : List Int) 0 a a0 a1
    have pq:=fun (n : Nat) (st : Store)=>pk (c:=callD fns m) (n:=n + 6) (τ:=[some (.int (0 + (i : Int))),some (sD ns),some (.int k),some (.int j)]) (st:=st) (es:=[(.lit (.int 0)),(.lit (.int 1)),(.lit (.int 2)),(.lit (.int 3)),(.lit (.int 4)),(.lit (.int 0)),(.lit (.int 0))]) (e:=.gc (.call 10 [(.var 1),(.var 2),(.bin .Add (.var 3) (.var 0)),(.lit (.int 7))])) [0,1,2,3,4,0,0] (i:=a) rfl (gc_call (n:=n + 5) (ds:=[sD ns,.int k,.int (j + (0 + (i : Int))),.int 7]) rfl (ea st) rfl) a0 a1 (by simp)
    generalize ([0,1,2,3,4,0,0] : List Int).getD a.toNat 0 = q at hm1 pq
    simp only [List.mem_cons,List.not_mem_nil,or_false] at hm1
    refine ⟨q.toNat,by omega,fun st n=>?_⟩
    rw [show iD q.toNat = D.int q by show D.int ((q.toNat : Nat) : Int) = _; rw [Int.toNat_of_nonneg (by omega)]]
    exact pq n st
  let F : Nat→Nat:=fun i=>if h : i < e.toNat then (hd i h).choose else 0
  have hF : ∀ i : Nat,i < e.toNat→F i < 10∧∀ st (n : Nat),(rn fns m (n + 9)).ev [some (.int (0 + (i : Int))),some (sD ns),some (.int k),some (.int j)] st (.idx (.gc (.lst [(.lit (.int 0)),(.lit (.int 1)),(.lit (.int 2)),(.lit (.int 3)),(.lit (.int 4)),(.lit (.int 0)),(.lit (.int 0))])) (.gc (.call 10 [(.var 1),(.var 2),(.bin .Add (.var 3) (.var 0)),(.lit (.int 7))]))) = some (iD (F i),st):=fun i hi=>by
    show (dite _ _ _ < 10)∧_
    simp only [F,hi,dif_pos]
    exact (hd i hi).choose_spec
  generalize F = F at hF
  refine ⟨(List.range e.toNat).map F,fun s hs=>?_,by simp; omega,fun st=>?_⟩
  · obtain ⟨i,hi,rfl⟩:=List.mem_map.mp hs
    exact (hF i (List.mem_range.mp hi)).1
  refine call_of (0 + 20) (F:=f_law_steps) rfl rfl rfl ?_
  show exs (stepEx (rn fns m (0 + 20))) b_law_steps [some (sD ns),some (.int k),some (.int j),some (.int e)] st = _
  unfold b_law_steps
  have hb : big e = false:=by unfold big; simp; omega
  have key:=gc_comp (c:=callD fns m) (n:=0 + 17) (τ:=[some (sD ns),some (.int k),some (.int j),some (.int e)]) (st:=st) (it:=.rng1 (.var 3)) (elt:=.idx (.gc (.lst [(.lit (.int 0)),(.lit (.int 1)),(.lit (.int 2)),(.lit (.int 3)),(.lit (.int 4)),(.lit (.int 0)),(.lit (.int 0))])) (.gc (.call 10 [(.var 1),(.var 2),(.bin .Add (.var 3) (.var 0)),(.lit (.int 7))]))) (sr:=[none,some 0,some 1,some 2]) (s:=.rng 0 e.toNat) (rest:=[some (sD ns),some (.int k),some (.int j)]) (List.range e.toNat) (fun (i : Nat)=>.int ((0 : Int) + i)) (fun i=>iD (F i)) (by
    simp only [src,ev_k,stepEv,List.getElem?_cons_succ,List.getElem?_cons_zero,Option.bind_some,hb,Bool.false_eq_true,if_false]) (fun i=>at_rng 0 _ i) (by simp [Src.size]) rfl (by simp; omega) (fun _ _=>rfl) (fun i hi=>(hF i (List.mem_range.mp hi)).2 st 8)
  have key' : (rn fns m (0 + 19)).ev [some (sD ns),some (.int k),some (.int j),some (.int e)] st _ = _:=key
  refine exs_ret ?_
  simp only [stepEx]
  rw [ev_k]
  simp only [stepEv,evs,key',Option.bind_some,bfun,bTuple,seqAt,Option.map_some]
  rw [List.map_map]
  rfl
omit hn in
theorem xDig : PySem.Str.ofString "dig" = mk [100,105,103]:=by decide +kernel
omit hn in
theorem gc_tcut {c : CF} {n : Nat} {τ : Sl} {st : Store} {a : E} {lo hi : Option E} {xs : List D} {l h : Option Int} (ha : (runK c n).ev τ st a = some (.tup xs,st)) (hlo : part (runK c n) τ st lo = some (l,st)) (hhi : part (runK c n) τ st hi = some (h,st)) (hd : noLocs (cut xs l h) = true) : (runK c (n + 2)).ev τ st (.gc (.sli a lo hi)) = some (.tup (cut xs l h),st):=by
  refine gc_ev ?_ (by rw [noLoc_tup]; exact hd)
  show ((runK c n).ev τ st a).bind _ = _
  rw [ha]
  simp only [Option.bind_some,hlo,hhi,sliD]
theorem dig_ok (hm : 3 ≤ m) (k w t d : Int) (w0 : 1 ≤ w) (w1 : w ≤ 24) (t0 : 1 ≤ t) (t1 : t ≤ 24) (d0 : 0 ≤ d) (d1 : d ≤ 12) : ∃ f : Fact,f.ok∧∀ st,callD fns m 21 [sD ns,.int k,zD w t d] st = some (fD f,st):=by
  obtain ⟨m,rfl⟩ : ∃ q,m = q + 1:=⟨m - 1,by omega⟩
  obtain ⟨a1,a2,a3,a4,_,_,_,_,_,_,_,_,ea⟩:=rect_ok hn (m:=m) (by omega) k 1 w t (by decide) (by decide) (by omega) (by omega)
  obtain ⟨b1,b2,b3,b4,_,_,_,_,_,_,_,_,eb⟩:=rect_ok hn (m:=m) (by omega) k 5 w t (by decide) (by decide) (by omega) (by omega)
  obtain ⟨c,c0,c1,ec⟩:=dex hn (N:=m) (by omega) k 9 (d + 1) (by omega) (by omega) (by omega)
  obtain ⟨x,x0,x1,ex⟩:=dex hn (N:=m) (by omega) k 11 3 (by decide) (by decide) (by decide)
  obtain ⟨g,g0,g1,eg⟩:=who_ok hn (m:=m) (by omega) k 12 (by decide) (by decide)
  have hm1:=getD_mem ([9,300,10 ^ 6] : List Int) 0 x x0 x1
  have pq:=fun (n : Nat) (τ : Sl) (st : Store) (h0 : τ[0]? = some (some (sD ns))) (h1 : τ[1]? = some (some (.int k)))=>pk (c:=callD fns m) (n:=n + 6) (τ:=τ) (st:=st) (es:=[(.lit (.int 9)),(.lit (.int 300)),(.bin .Pow (.lit (.int 10)) (.lit (.int 6)))]) (e:=.gc (.call 10 [(.var 0),(.var 1),(.lit (.int 11)),(.lit (.int 3))])) [9,300,10 ^ 6] (i:=x) rfl (gc_call (n:=n + 5) (ds:=[sD ns,.int k,.int 11,.int 3]) (by simp only [evs,ev_k,stepEv,h0,h1,Option.bind_some]) (ex st) rfl) x0 x1 (by simp)
  generalize ([9,300,10 ^ 6] : List Int).getD x.toNat 0 = q at hm1 pq
  simp only [List.mem_cons,List.not_mem_nil,or_false] at hm1
  obtain ⟨v,v0,v1,ev⟩:=dex hn (N:=m) (by omega) k 10 q (by omega) (by omega) (by omega)
  obtain ⟨f,hf,ef⟩:=good_word (w:=[100,105,103]) (is:=[g,a1,a2,b3,b4,c,1 + v]) (by simp [wordsN]) (fun i hi=>by
    simp only [List.mem_cons,List.not_mem_nil,or_false] at hi
    rcases hi with rfl | rfl | rfl | rfl | rfl | rfl | rfl <;> omega)
  refine ⟨f,hf,fun st=>?_⟩
  rw [ef]
  refine call_of (0 + 20) (F:=f_law_dig) rfl rfl rfl ?_
  show exs (stepEx (rn fns m (0 + 20))) b_law_dig [some (sD ns),some (.int k),some (zD w t d),none,none,none] st = _
  unfold b_law_dig
  have i0 : ∀ S,idxD S (zD w t d) (.int 0) = some (.int w):=fun S=>rfl
  have i1 : ∀ S,idxD S (zD w t d) (.int 1) = some (.int t):=fun S=>rfl
  have i2 : ∀ S,idxD S (zD w t d) (.int 2) = some (.int d):=fun S=>rfl
  rw [exs_cons (τ':=[some (sD ns),some (.int k),some (zD w t d),some (.tup [.int a1,.int a2]),none,none]) (s':=st) (by
    have s : (rn fns m (0 + 20)).ev [some (sD ns),some (.int k),some (zD w t d),none,none,none] st (.gc (.sli (.gc (.call 13 [(.var 0),(.var 1),(.lit (.int 1)),(.idx (.var 2) (.lit (.int 0))),(.idx (.var 2) (.lit (.int 1)))])) none (some (.lit (.int 2))))) = some (.tup [.int a1,.int a2],st) :=
      gc_tcut (n:=0 + 18) (xs:=[.int a1,.int a2,.int a3,.int a4]) (l:=none) (h:=some 2) (gc_call (n:=0 + 15) (ds:=[sD ns,.int k,.int 1,.int w,.int t]) rfl (ea st) rfl) rfl rfl rfl
    simp only [stepEx,s,Option.bind_some]
    rfl)]
  rw [exs_cons (τ':=[some (sD ns),some (.int k),some (zD w t d),some (.tup [.int a1,.int a2]),some (.tup [.int b3,.int b4,.int c]),none]) (s':=st) (by
    have s : (rn fns m (0 + 19)).ev [some (sD ns),some (.int k),some (zD w t d),some (.tup [.int a1,.int a2]),none,none] st (.gc (.sli (.gc (.call 13 [(.var 0),(.var 1),(.lit (.int 5)),(.idx (.var 2) (.lit (.int 0))),(.idx (.var 2) (.lit (.int 1)))])) (some (.lit (.int 2))) none)) = some (.tup [.int b3,.int b4],st) :=
      gc_tcut (n:=0 + 17) (xs:=[.int b1,.int b2,.int b3,.int b4]) (l:=some 2) (h:=none) (gc_call (n:=0 + 14) (ds:=[sD ns,.int k,.int 5,.int w,.int t]) rfl (eb st) rfl) rfl rfl rfl
    have s2 : (rn fns m (0 + 19)).ev [some (sD ns),some (.int k),some (zD w t d),some (.tup [.int a1,.int a2]),none,none] st (.tup [(.gc (.call 10 [(.var 0),(.var 1),(.lit (.int 9)),(.bin .Add (.idx (.var 2) (.lit (.int 2))) (.lit (.int 1)))]))]) = some (.tup [.int c],st):=by
      have : (rn fns m (0 + 18)).ev [some (sD ns),some (.int k),some (zD w t d),some (.tup [.int a1,.int a2]),none,none] st (.gc (.call 10 [(.var 0),(.var 1),(.lit (.int 9)),(.bin .Add (.idx (.var 2) (.lit (.int 2))) (.lit (.int 1)))])) = some (.int c,st):=gc_call (n:=0 + 15) (ds:=[sD ns,.int k,.int 9,.int (d + 1)]) rfl (ec st) rfl
      rw [ev_k]
      simp only [stepEv,evs,this,Option.bind_some]
      rfl
    simp only [stepEx]
    rw [ev_k]
    simp only [stepEv,s,s2,Option.bind_some]
    rfl)]
  generalize hT : ([some (sD ns),some (.int k),some (zD w t d),some (.tup [.int a1,.int a2]),some (.tup [.int b3,.int b4,.int c]),none] : Sl) = T
  have z0 : T[0]? = some (some (sD ns)):=by rw [← hT]; rfl
  have z1 : T[1]? = some (some (.int k)):=by rw [← hT]; rfl
  have gg : (rn fns m (0 + 19)).ev T st (.gc (.call 10 [(.var 0),(.var 1),(.lit (.int 10)),(.idx (.gc (.lst [(.lit (.int 9)),(.lit (.int 300)),(.bin .Pow (.lit (.int 10)) (.lit (.int 6)))])) (.gc (.call 10 [(.var 0),(.var 1),(.lit (.int 11)),(.lit (.int 3))])))])) = some (.int v,st):=by
    refine gc_call (n:=0 + 16) (ds:=[sD ns,.int k,.int 10,.int q]) ?_ (ev st) rfl
    have p:=pq 8 T st z0 z1
    have y0 : ∀ n : Nat,(rn fns m (n + 1)).ev T st (.var 0) = some (sD ns,st):=fun n=>by rw [ev_k]; simp only [stepEv,z0]
    have y1 : ∀ n : Nat,(rn fns m (n + 1)).ev T st (.var 1) = some (.int k,st):=fun n=>by rw [ev_k]; simp only [stepEv,z1]
    have y2 : ∀ n : Nat,(rn fns m (n + 1)).ev T st (.lit (.int 10)) = some (.int 10,st):=fun n=>rfl
    simp only [evs,y0,y1,y2,p,Option.bind_some]
  rw [exs_cons (τ':=[some (sD ns),some (.int k),some (zD w t d),some (.tup [.int a1,.int a2]),some (.tup [.int b3,.int b4,.int c]),some (.int (1 + v))]) (s':=st) (by
    have g1 : (rn fns m (0 + 19)).ev T st (.lit (.int 1)) = some (.int 1,st):=rfl
    simp only [stepEx]
    rw [ev_k]
    simp only [stepEv,gg,g1,Option.bind_some,pA]
    rw [← hT]
    rfl)]
  generalize hU : ([some (sD ns),some (.int k),some (zD w t d),some (.tup [.int a1,.int a2]),some (.tup [.int b3,.int b4,.int c]),some (.int (1 + v))] : Sl) = U
  have h16 : (rn fns m (0 + 17)).ev U st (.tup [(.lit (.str (PySem.Str.ofString "dig"))),(.gc (.call 16 [(.var 0),(.var 1),(.lit (.int 12))]))]) = some (.tup [tD [100,105,103],.int g],st):=by
    have l0 : (rn fns m (0 + 16)).ev U st (.lit (.str (PySem.Str.ofString "dig"))) = some (tD [100,105,103],st):=by rw [xDig]; rfl
    have l1 : (rn fns m (0 + 16)).ev U st (.gc (.call 16 [(.var 0),(.var 1),(.lit (.int 12))])) = some (.int g,st):=gc_call (n:=0 + 13) (ds:=[sD ns,.int k,.int 12]) (by rw [← hU]; rfl) (eg st) rfl
    rw [ev_k]
    simp only [stepEv,evs,l0,l1,Option.bind_some]
    rfl
  have v3 : ∀ n : Nat,(rn fns m (n + 1)).ev U st (.var 3) = some (.tup [.int a1,.int a2],st):=fun n=>by rw [← hU]; rfl
  have v4 : ∀ n : Nat,(rn fns m (n + 1)).ev U st (.var 4) = some (.tup [.int b3,.int b4,.int c],st):=fun n=>by rw [← hU]; rfl
  have v5 : ∀ n : Nat,(rn fns m (n + 2)).ev U st (.tup [(.var 5)]) = some (.tup [.int (1 + v)],st):=fun n=>by rw [← hU]; rfl
  have j1 : (rn fns m (0 + 18)).ev U st (.bin .Add (.tup [(.lit (.str (PySem.Str.ofString "dig"))),(.gc (.call 16 [(.var 0),(.var 1),(.lit (.int 12))]))]) (.var 3)) = some (.tup [tD [100,105,103],.int g,.int a1,.int a2],st):=by
    rw [ev_k]
    simp only [stepEv,h16,v3,Option.bind_some]
    rfl
  have j2 : (rn fns m (0 + 19)).ev U st (.bin .Add (.bin .Add (.tup [(.lit (.str (PySem.Str.ofString "dig"))),(.gc (.call 16 [(.var 0),(.var 1),(.lit (.int 12))]))]) (.var 3)) (.var 4)) = some (.tup [tD [100,105,103],.int g,.int a1,.int a2,.int b3,.int b4,.int c],st):=by
    rw [ev_k]
    simp only [stepEv,j1,v4,Option.bind_some]
    rfl
  refine exs_ret ?_
  simp only [stepEx]
  rw [ev_k]
  simp only [stepEv,j2,v5,Option.bind_some]
  rfl
end
end K07
end
set_option linter.all false
set_option maxRecDepth 10000
set_option maxHeartbeats 4000000
namespace K07
open M
open PySem (Str)
noncomputable def oT (ns : List Int) (k j w t e c x y : Int) (l : Nat) (a b : Option D) : Sl:=[some (sD ns),some (.int k),some (.int j),some (zD w t e),some (.int c),some (.int x),some (.int y),some (.loc l),a,b]
noncomputable def okC (cs : List (Nat × Nat)) : Prop:=∀ c ∈ cs,nSm c.1∧nSm c.2
noncomputable def outsB : List S:=[.set (.var 9) (.bin .Mod (.bin .Add (.var 5) (.bin .Mult (.var 8) (.var 6))) (.var 4)),.ite (.cmp .NotIn (.tup [(.bin .Mod (.var 9) (.idx (.var 3) (.lit (.int 0)))),(.bin .FloorDiv (.var 9) (.idx (.var 3) (.lit (.int 0))))]) (.var 7)) [.expr (.meth (.var 7) .append [(.tup [(.bin .Mod (.var 9) (.idx (.var 3) (.lit (.int 0)))),(.bin .FloorDiv (.var 9) (.idx (.var 3) (.lit (.int 0))))])])] []]
theorem app_end {c : CF} {n i : Nat} {τ : Sl} {st : Store} {ds : List D} {d : D} {e : E} (hv : τ[i]? = some (some (.loc st.length))) (he : (runK c n).ev τ (st++[.lst true ds]) e = some (d,st++[.lst true ds])) (hl : ds.length < 1000) (h0 : n ≠ 0) :
    (runK c (n + 1)).ev τ (st++[.lst true ds]) (.meth (.var i) .append [e]) = some (.non,st++[.lst true (ds++[d])]):=by
  obtain ⟨n,rfl⟩ : ∃ q,n = q + 1:=⟨n - 1,by omega⟩
  have my : mty (st++[.lst true ds]) .append (.loc st.length) = true:=by
    show (true && (seqAt (st++[.lst true ds]) (.loc st.length)).isSome) = true
    rw [seq_end]
    rfl
  have v : (runK c (n + 1)).ev τ (st++[.lst true ds]) (.var i) = some (.loc st.length,st++[.lst true ds]):=by rw [ev_k]; simp only [stepEv,hv]
  have wB : wlistAt (st++[.lst true ds]) st.length = some ds:=wat_mid _ _ _
  have sB : ∀ c,(st++[Cell.lst true ds]).set st.length c = st++[c]:=fun c=>set_mid _ _ _ _
  have hl' : ds.length < lim:=by unfold lim; omega
  rw [ev_k]
  simp only [stepEv,v,Option.bind_some,my,if_true,evs,he,mfun,mAppend,wB,sB,hl']
theorem ev_bin {c : CF} {n : Nat} {τ : Sl} {S : Store} {op : PySem.Operator} {A B : E} {a b r : D} (ha : (runK c n).ev τ S A = some (a,S)) (hb : (runK c n).ev τ S B = some (b,S)) (hr : binop S op a b = some (r,S)) : (runK c (n + 1)).ev τ S (.bin op A B) = some (r,S):=by
  rw [ev_k]
  simp only [stepEv,ha,hb,Option.bind_some,hr]
theorem ev_var {c : CF} {n : Nat} {τ : Sl} {S : Store} {i : Nat} {d : D} (h : τ[i]? = some (some d)) : (runK c (n + 1)).ev τ S (.var i) = some (d,S):=by
  rw [ev_k]
  simp only [stepEv,h]
theorem set_ok {c : CF} {n : Nat} {τ τ' : Sl} {S : Store} {i : Nat} {e : E} {d : D} (he : (runK c n).ev τ S e = some (d,S)) (ht : setT (.var i) d τ = some τ') : stepEx (runK c n) τ S (.set (.var i) e) = some (.nx τ',S):=by
  simp only [stepEx,he,Option.bind_some,ht,Option.map_some]
theorem outs_turn (m : Nat) (st : Store) (ns : List Int) (k j w t e c x y : Int) (hw0 : 1 ≤ w) (hw1 : w ≤ 24) (c0 : 1 ≤ c) (c1 : c ≤ 576) (i : Nat) (hi : i < 20) (cs : List (Nat × Nat)) (a b : Option D) (hcs : okC cs) (hlen : cs.length ≤ i) :
    ∃ (cs' : List (Nat × Nat)) (b' : Option D),okC cs'∧cs'.length ≤ i + 1∧cs' ≠ []∧(rn fns m (0 + 30)).ex (oT ns k j w t e c x y st.length (some (.int (0 + (i : Int)))) b) (st++[.lst true (cs.map cD)]) outsB = some (.nx (oT ns k j w t e c x y st.length (some (.int (0 + (i : Int)))) b'),st++[.lst true (cs'.map cD)]):=by
  obtain ⟨pl,hpl⟩ : ∃ pl,pl = (x + (0 + (i : Int)) * y) % c:=⟨_,rfl⟩
  have pl0 : 0 ≤ pl:=by rw [hpl]; exact Int.emod_nonneg _ (by omega)
  have pl1 : pl < c:=by rw [hpl]; exact Int.emod_lt_of_pos _ (by omega)
  have h1:=Int.emod_nonneg pl (show w ≠ 0 by omega)
  have h2:=Int.emod_lt_of_pos pl (show 0 < w by omega)
  have h3 : 0 ≤ pl / w:=Int.ediv_nonneg pl0 (by omega)
  have h4 : pl / w ≤ pl:=Int.ediv_le_self _ pl0
  obtain ⟨p,hp,p0⟩ : ∃ p : Nat × Nat,cD p = .tup [.int (pl % w),.int (pl / w)]∧nSm p.1∧nSm p.2:=⟨((pl % w).toNat,(pl / w).toNat),by
    show D.tup [.int (((pl % w).toNat : Nat) : Int),.int (((pl / w).toNat : Nat) : Int)] = _
    rw [Int.toNat_of_nonneg h1,Int.toNat_of_nonneg h3],by unfold nSm; show (pl % w).toNat < _; omega,by unfold nSm; show (pl / w).toNat < _; omega⟩
  generalize hB : st++[.lst true (cs.map cD)] = B
  have q1 : binop B .Mult (.int (0 + (i : Int))) (.int y) = some (.int ((0 + (i : Int)) * y),B):=by
    simp only [binop]
    rw [if_pos (mulOk_l (by omega) (by omega))]
  unfold outsB
  rw [ex_k]
  rw [exs_cons (τ':=oT ns k j w t e c x y st.length (some (.int (0 + (i : Int)))) (some (.int pl))) (s':=B) (set_ok (ev_bin (n:=28) (ev_bin (n:=27) (ev_var (n:=26) rfl) (ev_bin (n:=26) (ev_var (n:=25) rfl) (ev_var (n:=25) rfl) q1) (pA _ _ _)) (ev_var (n:=27) rfl) ((pMod B (show 0 < c by omega)).trans (by rw [hpl]))) rfl)]
  have i0 : ∀ S,idxD S (zD w t e) (.int 0) = some (.int w):=fun S=>rfl
  have tp : ∀ n : Nat,(rn fns m (n + 8)).ev (oT ns k j w t e c x y st.length (some (.int (0 + (i : Int)))) (some (.int pl))) B (.tup [(.bin .Mod (.var 9) (.idx (.var 3) (.lit (.int 0)))),(.bin .FloorDiv (.var 9) (.idx (.var 3) (.lit (.int 0))))]) = some (cD p,B):=fun n=>by
    simp only [ev_k,stepEv,evs,oT,List.getElem?_cons_succ,List.getElem?_cons_zero,Option.bind_some,i0,Option.map_some,pMod B (show 0 < w by omega),pDiv B (show 0 < w by omega) (show w < 2 ^ 64 by omega)]
    rw [hp]
    rfl
  have hs : seqAt B (.loc st.length) = some (cs.map cD):=by rw [← hB]; exact seq_end _ _ _
  have hin : inD B (cD p) (.loc st.length) = some ((cs.map cD).any fun z=>eqT z (cD p)):=by
    simp only [inD,hs,Option.bind_some]
    rw [flats_map cD 9 (fun _=>rfl),show flat 9 (cD p) = true from rfl]
    rfl
  have v7 : ∀ n : Nat,(rn fns m (n + 1)).ev (oT ns k j w t e c x y st.length (some (.int (0 + (i : Int)))) (some (.int pl))) B (.var 7) = some (.loc st.length,B):=fun n=>rfl
  have tt : ∀ n : Nat,(rn fns m (n + 10)).tst (oT ns k j w t e c x y st.length (some (.int (0 + (i : Int)))) (some (.int pl))) B (.cmp .NotIn (.tup [(.bin .Mod (.var 9) (.idx (.var 3) (.lit (.int 0)))),(.bin .FloorDiv (.var 9) (.idx (.var 3) (.lit (.int 0))))]) (.var 7)) = some (!((cs.map cD).any fun z=>eqT z (cD p)),B):=fun n=>by
    rw [tst_k]
    simp only [stepTst,tp,v7,Option.bind_some,cmpD,hin,Option.map_some]
  cases hb : ((cs.map cD).any fun z=>eqT z (cD p)) with
  | true =>
    refine ⟨cs,some (.int pl),hcs,by omega,fun hc=>?_,?_⟩
    · rw [hc] at hb
      simp at hb
    · rw [exs_cons (τ':=oT ns k j w t e c x y st.length (some (.int (0 + (i : Int)))) (some (.int pl))) (s':=B) (by refine (stepEx_ite_f (st':=B) ?_).trans rfl; rw [tt,hb]; rfl)]
      rw [hB]
      rfl
  | false =>
    refine ⟨cs++[p],some (.int pl),fun q hq=>?_,by rw [List.length_append,List.length_singleton]; omega,by simp,?_⟩
    · rcases List.mem_append.mp hq with h | h
      · exact hcs q h
      · rw [List.mem_singleton.mp h]; exact p0
    · have ap : (rn fns m (0 + 28)).ev (oT ns k j w t e c x y st.length (some (.int (0 + (i : Int)))) (some (.int pl))) B (.meth (.var 7) .append [(.tup [(.bin .Mod (.var 9) (.idx (.var 3) (.lit (.int 0)))),(.bin .FloorDiv (.var 9) (.idx (.var 3) (.lit (.int 0))))])]) = some (.non,st++[.lst true ((cs++[p]).map cD)]):=by
        have t2:=tp (0 + 19)
        rw [← hB] at t2 ⊢
        rw [List.map_append]
        exact app_end (n:=0 + 27) rfl t2 (by rw [List.length_map]; omega) (by omega)
      rw [exs_cons (τ':=oT ns k j w t e c x y st.length (some (.int (0 + (i : Int)))) (some (.int pl))) (s':=st++[.lst true ((cs++[p]).map cD)]) (by
        refine (stepEx_ite_t (st':=B) (by rw [tt,hb]; rfl)).trans ?_
        rw [ex_k,exs_cons (τ':=oT ns k j w t e c x y st.length (some (.int (0 + (i : Int)))) (some (.int pl))) (s':=st++[.lst true ((cs++[p]).map cD)]) (by simp only [stepEx,ap,Option.map_some])]
        rfl)]
      rfl
section
variable {ns : List Int} (hn : ns.length ≤ 63) {m : Nat}
include hn
theorem outs_ok (hm : 2 ≤ m) (k j w t e : Int) (hj : 0 ≤ j) (hj2 : j < 900) (hw0 : 1 ≤ w) (hw1 : w ≤ 24) (ht0 : 1 ≤ t) (ht1 : t ≤ 24) (st : Store) :
    ∃ (cs : List (Nat × Nat)) (r : Store),okC cs∧cs.length ≤ 20∧cs ≠ []∧callD fns m 15 [sD ns,.int k,.int j,zD w t e] st = some (.tup (cs.map cD),st++r):=by
  obtain ⟨m,rfl⟩ : ∃ q,m = q + 1:=⟨m - 1,by omega⟩
  have i0 : ∀ S,idxD S (zD w t e) (.int 0) = some (.int w):=fun S=>rfl
  have i1 : ∀ S,idxD S (zD w t e) (.int 1) = some (.int t):=fun S=>rfl
  obtain ⟨c,hc⟩ : ∃ c,c = w * t:=⟨_,rfl⟩
  have c0 : 1 ≤ c:=by
    have : 1 * 1 ≤ w * t:=Int.mul_le_mul hw0 ht0 (by omega) (by omega)
    omega
  have c1 : c ≤ 576:=by
    have : w * t ≤ 24 * 24:=Int.mul_le_mul hw1 ht1 (by omega) (by omega)
    omega
  have pM : ∀ S,binop S .Mult (.int w) (.int t) = some (.int c,S):=fun S=>by
    have mo:=mulOk_l (a:=w) (b:=t) (by omega) (by omega)
    simp only [binop]
    rw [if_pos mo,hc]
  obtain ⟨x,x0,x1,ex⟩:=dex hn (N:=m) (by omega) k j c (by omega) (by omega) (by omega)
  obtain ⟨y,y0,y1,ey⟩:=dex hn (N:=m) (by omega) k (j + 1) c (by omega) (by omega) (by omega)
  obtain ⟨z,z0,z1,ez⟩:=dex hn (N:=m) (by omega) k (j + 2) 4 (by omega) (by omega) (by omega)
  have hm1:=getD_mem ([16,4,4,4] : List Int) 0 z z0 z1
  have pq:=fun (n : Nat) (a b : Option D) (S : Store)=>pk (c:=callD fns m) (n:=n + 6) (τ:=oT ns k j w t e c x (1 + y) st.length a b) (st:=S) (es:=[(.lit (.int 16)),(.lit (.int 4)),(.lit (.int 4)),(.lit (.int 4))]) (e:=.gc (.call 10 [(.var 0),(.var 1),(.bin .Add (.var 2) (.lit (.int 2))),(.lit (.int 4))])) [16,4,4,4] (i:=z) rfl (gc_call (n:=n + 5) (ds:=[sD ns,.int k,.int (j + 2),.int 4]) rfl (ez S) rfl) z0 z1 (by simp)
  generalize ([16,4,4,4] : List Int).getD z.toNat 0 = q at hm1 pq
  simp only [List.mem_cons,List.not_mem_nil,or_false] at hm1
  obtain ⟨v,v0,v1,ev⟩:=dex hn (N:=m) (by omega) k (j + 3) q (by omega) (by omega) (by omega)
  have hb : big (1 + v) = false:=by
    unfold big
    simp
    omega
  have hs : src (rn fns m (0 + 30)) (oT ns k j w t e c x (1 + y) st.length none none) (st++[.lst true []]) (.rng1 (.bin .Add (.lit (.int 1)) (.gc (.call 10 [(.var 0),(.var 1),(.bin .Add (.var 2) (.lit (.int 3))),(.idx (.gc (.lst [(.lit (.int 16)),(.lit (.int 4)),(.lit (.int 4)),(.lit (.int 4))])) (.gc (.call 10 [(.var 0),(.var 1),(.bin .Add (.var 2) (.lit (.int 2))),(.lit (.int 4))])))])))) = some (.rng 0 (1 + v).toNat,st++[.lst true []]):=by
    have g : (rn fns m (0 + 29)).ev (oT ns k j w t e c x (1 + y) st.length none none) (st++[.lst true []]) (.gc (.call 10 [(.var 0),(.var 1),(.bin .Add (.var 2) (.lit (.int 3))),(.idx (.gc (.lst [(.lit (.int 16)),(.lit (.int 4)),(.lit (.int 4)),(.lit (.int 4))])) (.gc (.call 10 [(.var 0),(.var 1),(.bin .Add (.var 2) (.lit (.int 2))),(.lit (.int 4))])))])) = some (.int v,st++[.lst true []]):=by
      refine gc_call (n:=0 + 26) (ds:=[sD ns,.int k,.int (j + 3),.int q]) ?_ (ev _) rfl
      have p:=pq 18 none none (st++[.lst true []])
      have w0 : ∀ n : Nat,(rn fns m (n + 1)).ev (oT ns k j w t e c x (1 + y) st.length none none) (st++[.lst true []]) (.var 0) = some (sD ns,st++[.lst true []]):=fun n=>rfl
      have w1 : ∀ n : Nat,(rn fns m (n + 1)).ev (oT ns k j w t e c x (1 + y) st.length none none) (st++[.lst true []]) (.var 1) = some (.int k,st++[.lst true []]):=fun n=>rfl
      have w2 : ∀ n : Nat,(rn fns m (n + 2)).ev (oT ns k j w t e c x (1 + y) st.length none none) (st++[.lst true []]) (.bin .Add (.var 2) (.lit (.int 3))) = some (.int (j + 3),st++[.lst true []]):=fun n=>rfl
      simp only [evs,w0,w1,w2,p,Option.bind_some]
    have g1 : (rn fns m (0 + 29)).ev (oT ns k j w t e c x (1 + y) st.length none none) (st++[.lst true []]) (.lit (.int 1)) = some (.int 1,st++[.lst true []]):=rfl
    simp only [src]
    rw [ev_k]
    simp only [stepEv,g,g1,Option.bind_some,pA,hb,Bool.false_eq_true,if_false]
  obtain ⟨τ',S',el,cs,a,b,h1,h2,hcs,hlen,hne⟩:=loop_rng (lo:=0) (n:=(1 + v).toNat) (τ:=oT ns k j w t e c x (1 + y) st.length none none) (st:=st++[.lst true []])
    (f:=fun τ st d=>(setT (.var 8) d τ).bind fun τ'=>(rn fns m (0 + 30)).ex τ' st outsB)
    (fun i τ S=>∃ (cs : List (Nat × Nat)) (a b : Option D),τ = oT ns k j w t e c x (1 + y) st.length a b∧S = st++[.lst true (cs.map cD)]∧okC cs∧cs.length ≤ i∧(0 < i→cs ≠ [])) ⟨[],none,none,rfl,rfl,(fun o ho=>by cases ho),by simp,fun h=>absurd h (by omega)⟩ (by
      rintro i τ S hi ⟨cs,a,b,rfl,rfl,hok,hlen,_⟩
      obtain ⟨cs',b',o1,o2,o3,o4⟩:=outs_turn m st ns k j w t e c x (1 + y) hw0 hw1 c0 c1 i (by omega) cs a b hok hlen
      have s8 : setT (.var 8) (.int (0 + (i : Int))) (oT ns k j w t e c x (1 + y) st.length a b) = some (oT ns k j w t e c x (1 + y) st.length (some (.int (0 + (i : Int)))) b):=rfl
      refine ⟨oT ns k j w t e c x (1 + y) st.length (some (.int (0 + (i : Int)))) b',st++[.lst true (cs'.map cD)],?_,cs',_,b',rfl,rfl,o1,o2,fun _=>o3⟩
      rw [s8,Option.bind_some]
      exact o4)
  subst h1 h2
  refine ⟨cs,[.lst true (cs.map cD)],hcs,by omega,hne (by omega),?_⟩
  refine call_of (0 + 30) (F:=f_law_outs) rfl rfl rfl ?_
  show exs (stepEx (rn fns m (0 + 30))) b_law_outs [some (sD ns),some (.int k),some (.int j),some (zD w t e),none,none,none,none,none,none] st = _
  unfold b_law_outs
  rw [exs_cons (τ':=[some (sD ns),some (.int k),some (.int j),some (zD w t e),some (.int c),none,none,none,none,none]) (s':=st) (set_ok (ev_bin (n:=29) (a:=.int w) (b:=.int t) rfl rfl (pM st)) rfl)]
  rw [exs_cons (τ':=[some (sD ns),some (.int k),some (.int j),some (zD w t e),some (.int c),some (.int x),none,none,none,none]) (s':=st) (by
    simp only [stepEx,ev_k,stepEv,evs,List.getElem?_cons_succ,List.getElem?_cons_zero,Option.bind_some,call_k,ex,Option.map_some,gc_int]
    rfl)]
  rw [exs_cons (τ':=[some (sD ns),some (.int k),some (.int j),some (zD w t e),some (.int c),some (.int x),some (.int (1 + y)),none,none,none]) (s':=st) (by
    simp only [stepEx,ev_k,stepEv,evs,List.getElem?_cons_succ,List.getElem?_cons_zero,Option.bind_some,call_k,pA,ey,Option.map_some,gc_int]
    rfl)]
  rw [exs_cons (τ':=oT ns k j w t e c x (1 + y) st.length none none) (s':=st++[.lst true []]) rfl]
  rw [exs_cons (τ':=oT ns k j w t e c x (1 + y) st.length a b) (s':=st++[.lst true (cs.map cD)]) (by
    simp only [stepEx]
    rw [hs]
    simp only [Option.bind_some,Src.size]
    exact el)]
  refine exs_ret ?_
  have v7 : ∀ n : Nat,(rn fns m (n + 1)).ev (oT ns k j w t e c x (1 + y) st.length a b) (st++[.lst true (cs.map cD)]) (.var 7) = some (.loc st.length,st++[.lst true (cs.map cD)]):=fun n=>rfl
  simp only [stepEx]
  rw [ev_k]
  simp only [stepEv,evs,v7,Option.bind_some,bfun,bTuple,seq_end,Option.map_some]
theorem vein_ok (hm : 3 ≤ m) (k w t d : Int) (w0 : 1 ≤ w) (w1 : w ≤ 24) (t0 : 1 ≤ t) (t1 : t ≤ 24) (d0 : 0 ≤ d) (d1 : d ≤ 12) (st : Store) : ∃ f : Fact,f.ok∧callD fns m 18 [sD ns,.int k,zD w t d] st = some (fD f,st):=by
  obtain ⟨m,rfl⟩ : ∃ q,m = q + 1:=⟨m - 1,by omega⟩
  obtain ⟨ss,s1,s2,es⟩:=steps_ok hn (m:=m) (by omega) k 8 d (by omega) (by omega) d0 d1
  obtain ⟨cs,r,c1,c2,c3,ec⟩:=outs_ok hn (m:=m) (by omega) k 1 w t d (by omega) (by omega) w0 w1 t0 t1 st
  refine ⟨.vein ss cs,⟨s1,s2,c1,c2,c3⟩,?_⟩
  refine call_of (0 + 20) (F:=f_law_vein) rfl rfl rfl ?_
  show exs (stepEx (rn fns m (0 + 20))) b_law_vein [some (sD ns),some (.int k),some (zD w t d)] st = _
  unfold b_law_vein
  have l0 : (rn fns m (0 + 19)).ev [some (sD ns),some (.int k),some (zD w t d)] st (.lit (.str (PySem.Str.ofString "vein"))) = some (tD wVein,st):=by rw [xVein]; rfl
  have l1 : (rn fns m (0 + 19)).ev [some (sD ns),some (.int k),some (zD w t d)] st (.gc (.call 14 [(.var 0),(.var 1),(.lit (.int 8)),(.idx (.var 2) (.lit (.int 2)))])) = some (.tup (ss.map iD),st):=gc_call (n:=0 + 16) (ds:=[sD ns,.int k,.int 8,.int d]) rfl (es st) (by rw [noLoc_tup]; exact nl_iD _)
  have l2 : (rn fns m (0 + 19)).ev [some (sD ns),some (.int k),some (zD w t d)] st (.gc (.call 15 [(.var 0),(.var 1),(.lit (.int 1)),(.var 2)])) = some (.tup (cs.map cD),st):=by
    show ((callD fns m 15 [sD ns,.int k,.int 1,zD w t d] st).map (gcD st)) = _
    rw [ec,Option.map_some,gc_app (by rw [noLoc_tup]; exact cD_nl _)]
  refine exs_ret ?_
  simp only [stepEx]
  rw [ev_k]
  simp only [stepEv,evs,l0,l1,l2,Option.bind_some]
  rfl
end
end K07
section
set_option linter.all false
set_option maxRecDepth 10000
set_option maxHeartbeats 4000000
namespace K07
open M
open PySem (Str)
theorem xWork : PySem.Str.ofString "work" = mk [119,111,114,107]:=by decide +kernel
theorem xSell : PySem.Str.ofString "sell" = mk [115,101,108,108]:=by decide +kernel
theorem xPart : PySem.Str.ofString "part" = mk [112,97,114,116]:=by decide +kernel
theorem xGive : PySem.Str.ofString "give" = mk [103,105,118,101]:=by decide +kernel
theorem xJoin : PySem.Str.ofString "join" = mk [106,111,105,110]:=by decide +kernel
theorem xStake : PySem.Str.ofString "stake" = mk [115,116,97,107,101]:=by decide +kernel
noncomputable def qD (q : List Nat × List Int) : D:=.tup (tD q.1::q.2.map D.int)
noncomputable def plD (v : Int) : D:=.lst [.tup [.int 7,.tup [tD wVein]],.tup [.int v,.tup [tD [115,116,97,107,101]]]]
section
variable {ns : List Int} (hn : ns.length ≤ 63) {m : Nat}
include hn
theorem claim_ok (hm : 3 ≤ m) (k way w t d : Int) (y0 : 0 ≤ way) (y1 : way < 8) (w0 : 1 ≤ w) (w1 : w ≤ 24) (t0 : 1 ≤ t) (t1 : t ≤ 24) (xs : List Int) (hx : ∀ x ∈ xs,1 ≤ x∧x ≤ 400) (hl : xs.length ≤ 100) : ∃ f : Fact,f.ok∧∀ st,callD fns m 19 [sD ns,.int k,.int way,zD w t d,.lst (xs.map D.int)] st = some (fD f,st):=by
  obtain ⟨m,rfl⟩ : ∃ q,m = q + 1:=⟨m - 1,by omega⟩
  obtain ⟨p,p0,p1,ep⟩:=pick_ok hn (m:=m) (by omega) k 1 (by decide) (by decide) xs hx hl
  obtain ⟨g,g0,g1,eg⟩:=who_ok hn (m:=m) (by omega) k 3 (by decide) (by decide)
  obtain ⟨s,s0,s1,es⟩:=dex hn (N:=m) (by omega) k 5 2 (by decide) (by decide) (by decide)
  obtain ⟨z,z0,z1,ez⟩ : ∃ z,1 ≤ z∧z ≤ 24∧∀ S,idxD S (zD w t d) (.int s) = some (.int z):=by
    rcases (show s = 0∨s = 1 by omega) with rfl | rfl
    · exact ⟨w,w0,w1,fun S=>rfl⟩
    · exact ⟨t,t0,t1,fun S=>rfl⟩
  obtain ⟨u,hu⟩ : ∃ u : Int,u = if z < 23 then z else 23:=⟨_,rfl⟩
  have u0 : 0 < u∧u ≤ 24:=by rw [hu]; split <;> omega
  obtain ⟨l,l0,l1,el⟩:=dex hn (N:=m) (by omega) k 6 u (by omega) (by omega) (by omega)
  obtain ⟨N,hN⟩ : ∃ N : D,N = .lst (xs.map D.int):=⟨_,rfl⟩
  rw [← hN] at ep ⊢
  have main : ∀ f : Fact,(∀ st,exs (stepEx (rn fns m (0 + 20))) [
  .ite (.cmp .Lt (.var 2) (.lit (.int 3))) [.ret (.tup [(.lit (.str (PySem.Str.ofString "work"))),(.var 5)])] [],
  .ret (.idx (.gc (.lst [(.tup [(.lit (.str (PySem.Str.ofString "sell"))),(.var 5),(.var 6)]),(.tup [(.lit (.str (PySem.Str.ofString "part"))),(.var 5),(.var 7),(.var 8),(.var 6)]),(.tup [(.lit (.str (PySem.Str.ofString "give"))),(.var 5)])])) (.bin .Sub (.bin .FloorDiv (.var 2) (.lit (.int 2))) (.lit (.int 1))))] [some (sD ns),some (.int k),some (.int way),some (zD w t d),some N,some (.int p),some (.int g),some (.int s),some (.int (1 + l))] st = some (.rt (fD f),st))→∀ st,callD fns (m + 1) 19 [sD ns,.int k,.int way,zD w t d,N] st = some (fD f,st):=fun f h st=>by
    refine call_of (0 + 20) (F:=f_law_claim_fact) rfl rfl rfl ?_
    show exs (stepEx (rn fns m (0 + 20))) b_law_claim_fact [some (sD ns),some (.int k),some (.int way),some (zD w t d),some N,none,none,none,none] st = _
    unfold b_law_claim_fact
    rw [exs_cons (τ':=[some (sD ns),some (.int k),some (.int way),some (zD w t d),some N,some (.int p),none,none,none]) (s':=st) (set_ok (gc_call (n:=17) (ds:=[sD ns,.int k,.int 1,N]) rfl (ep st) rfl) rfl)]
    rw [exs_cons (τ':=[some (sD ns),some (.int k),some (.int way),some (zD w t d),some N,some (.int p),some (.int g),none,none]) (s':=st) (set_ok (gc_call (n:=17) (ds:=[sD ns,.int k,.int 3]) rfl (eg st) rfl) rfl)]
    rw [exs_cons (τ':=[some (sD ns),some (.int k),some (.int way),some (zD w t d),some N,some (.int p),some (.int g),some (.int s),none]) (s':=st) (set_ok (gc_call (n:=17) (ds:=[sD ns,.int k,.int 5,.int 2]) rfl (es st) rfl) rfl)]
    rw [exs_cons (τ':=[some (sD ns),some (.int k),some (.int way),some (zD w t d),some N,some (.int p),some (.int g),some (.int s),some (.int (1 + l))]) (s':=st) (set_ok (ev_bin (n:=19) (a:=.int 1) (b:=.int l) rfl (gc_call (n:=16) (ds:=[sD ns,.int k,.int 6,.int u]) (by
      simp only [evs,ev_k,stepEv,List.getElem?_cons_succ,List.getElem?_cons_zero,Option.bind_some,ez,Option.map_some,bfun,bMin]
      rw [hu]) (el st) rfl) (pA _ _ _)) rfl)]
    exact h st
  generalize hT : ([some (sD ns),some (.int k),some (.int way),some (zD w t d),some N,some (.int p),some (.int g),some (.int s),some (.int (1 + l))] : Sl) = T at main
  have tt : ∀ st (n : Nat),(rn fns m (n + 4)).tst T st (.cmp .Lt (.var 2) (.lit (.int 3))) = some (decide (way < 3),st):=fun st n=>by
    rw [← hT]
    simp only [tst_k,stepTst,ev_k,stepEv,List.getElem?_cons_succ,List.getElem?_cons_zero,Option.bind_some,cmpD,Option.map_some]
  by_cases h : way < 3
  · obtain ⟨f,hf,ef⟩:=good_word (w:=[119,111,114,107]) (is:=[p]) (by simp [wordsN]) (fun i hi=>by
      simp only [List.mem_cons,List.not_mem_nil,or_false] at hi
      subst hi
      omega)
    refine ⟨f,hf,main f fun st=>?_⟩
    rw [ef]
    refine exs_ret ((stepEx_ite_t (st':=st) (by rw [tt,decide_eq_true h])).trans ?_)
    rw [ex_k,xWork,← hT]
    exact exs_ret rfl
  · let L : List (List Nat × List Int):=[([115,101,108,108],[p,g]),([112,97,114,116],[p,s,1 + l,g]),([103,105,118,101],[p])]
    have b0 : 0 ≤ way / 2 - 1:=by omega
    have b1 : way / 2 - 1 < (L.length : Nat):=by show way / 2 - 1 < (3 : Int); omega
    have hp:=getD_mem L ([],[]) (way / 2 - 1) b0 b1
    have hi:=ix_lst qD L ([],[]) (way / 2 - 1) b0 b1
    generalize L.getD (way / 2 - 1).toNat ([],[]) = q at hp hi
    obtain ⟨f,hf,ef⟩:=good_word (w:=q.1) (is:=q.2) (by
      simp only [L,List.mem_cons,List.not_mem_nil,or_false] at hp
      rcases hp with rfl | rfl | rfl <;> simp [wordsN]) (fun i hi=>by
      simp only [L,List.mem_cons,List.not_mem_nil,or_false] at hp
      rcases hp with rfl | rfl | rfl <;> simp only [List.mem_cons,List.not_mem_nil,or_false] at hi
      · rcases hi with rfl | rfl <;> omega
      · rcases hi with rfl | rfl | rfl | rfl <;> omega
      · subst hi; omega)
    refine ⟨f,hf,main f fun st=>?_⟩
    rw [ef]
    rw [exs_cons (τ':=T) (s':=st) (by refine (stepEx_ite_f (st':=st) ?_).trans rfl; rw [tt,decide_eq_false h])]
    have ll : (rn fns m (0 + 19)).ev T st (.gc (.lst [(.tup [(.lit (.str (PySem.Str.ofString "sell"))),(.var 5),(.var 6)]),(.tup [(.lit (.str (PySem.Str.ofString "part"))),(.var 5),(.var 7),(.var 8),(.var 6)]),(.tup [(.lit (.str (PySem.Str.ofString "give"))),(.var 5)])])) = some (.lst (L.map qD),st):=by
      rw [xSell,xPart,xGive,← hT]
      exact gc_lit (n:=0 + 17) rfl (by simp [L]) rfl
    generalize L.map qD = G at hi ll
    have ii : (rn fns m (0 + 19)).ev T st (.bin .Sub (.bin .FloorDiv (.var 2) (.lit (.int 2))) (.lit (.int 1))) = some (.int (way / 2 - 1),st) :=
      ev_bin (n:=0 + 18) (a:=.int (way / 2)) (b:=.int 1) (ev_bin (n:=0 + 17) (a:=.int way) (b:=.int 2) (by rw [← hT]; rfl) rfl (pDiv st (by omega) (by omega))) rfl rfl
    refine exs_ret ?_
    simp only [stepEx]
    rw [ev_k]
    simp only [stepEv,ll,ii,Option.bind_some,hi,Option.map_some]
    rfl
end
theorem plan_v {c : CF} {n : Nat} {T : Sl} {st : Store} {v : Int} (h : T[3]? = some (some (plD v))) : (runK c (n + 20)).ev T st (.gc (.comp (.tup [0,1]) (.var 3) (some (.cmp .Eq (.idx (.var 1) (.lit (.int 0))) (.lit (.str (PySem.Str.ofString "vein"))))) (.var 0) [none,none])) = some (.lst [.int 7],st):=by
  refine gc_evL (n:=n + 19) ?_ rfl
  rw [xVein,ev_k]
  have hs : src (runK c (n + 18)) T st (.var 3) = some (.lst (plD v),st):=by
    simp only [src,ev_k,stepEv,h,Option.bind_some]
    rfl
  simp only [stepEv,hs,Option.bind_some]
  rfl
theorem plan_n {c : CF} {n : Nat} {T : Sl} {st : Store} {v : Int} (h : T[3]? = some (some (plD v))) : (runK c (n + 20)).ev T st (.gc (.comp (.tup [0,1]) (.var 3) (some (.cmp .In (.idx (.var 1) (.lit (.int 0))) (.tup [(.lit (.str (PySem.Str.ofString "stake"))),(.lit (.str (PySem.Str.ofString "part")))]))) (.var 0) [none,none])) = some (.lst [.int v],st):=by
  refine gc_evL (n:=n + 19) ?_ rfl
  rw [xStake,xPart,ev_k]
  have hs : src (runK c (n + 18)) T st (.var 3) = some (.lst (plD v),st):=by
    simp only [src,ev_k,stepEv,h,Option.bind_some]
    rfl
  simp only [stepEv,hs,Option.bind_some]
  rfl
end K07
end
section
set_option linter.all false
set_option maxRecDepth 10000
set_option maxHeartbeats 4000000
namespace K07
open M
open PySem (Str)
theorem exs_ite_f {c : CF} {n : Nat} {τ : Sl} {st : Store} {e : E} {a b : List S} (h : (runK c (n + 1)).tst τ st e = some (false,st)) : exs (stepEx (runK c (n + 1))) (.ite e a []::b) τ st = exs (stepEx (runK c (n + 1))) b τ st :=
  exs_cons ((stepEx_ite_f (st':=st) h).trans rfl)
section
variable {ns : List Int} (hn : ns.length ≤ 63) {m : Nat}
include hn
theorem fact_ok (hm : 4 ≤ m) (k w t d v : Int) (w0 : 1 ≤ w) (w1 : w ≤ 24) (t0 : 1 ≤ t) (t1 : t ≤ 24) (d0 : 0 ≤ d) (d1 : d ≤ 12) (v0 : 1 ≤ v) (v1 : v ≤ 400) (st : Store) : ∃ f : Fact,f.ok∧callD fns m 20 [sD ns,.int k,zD w t d,plD v] st = some (fD f,st):=by
  obtain ⟨m,rfl⟩ : ∃ q,m = q + 1:=⟨m - 1,by omega⟩
  obtain ⟨y,y0,y1,ey⟩:=dex hn (N:=m) (by omega) k 0 20 (by decide) (by decide) (by decide)
  suffices h : ∃ f : Fact,f.ok∧exs (stepEx (rn fns m (0 + 30))) b_law_fact [some (sD ns),some (.int k),some (zD w t d),some (plD v),none,none,none,none] st = some (.rt (fD f),st) by
    obtain ⟨f,hf,e⟩:=h
    exact ⟨f,hf,call_of (0 + 30) (F:=f_law_fact) rfl rfl rfl e⟩
  unfold b_law_fact
  rw [exs_cons (τ':=[some (sD ns),some (.int k),some (zD w t d),some (plD v),some (.int y),none,none,none]) (s':=st) (set_ok (gc_call (n:=27) (ds:=[sD ns,.int k,.int 0,.int 20]) rfl (ey st) rfl) rfl)]
  rw [exs_cons (τ':=[some (sD ns),some (.int k),some (zD w t d),some (plD v),some (.int y),some (.lst [.int 7]),none,none]) (s':=st) (set_ok (plan_v (n:=10) rfl) rfl)]
  rw [exs_cons (τ':=[some (sD ns),some (.int k),some (zD w t d),some (plD v),some (.int y),some (.lst [.int 7]),some (.lst [.int v]),none]) (s':=st) (set_ok (plan_n (n:=10) rfl) rfl)]
  generalize hT : ([some (sD ns),some (.int k),some (zD w t d),some (plD v),some (.int y),some (.lst [.int 7]),some (.lst [.int v]),none] : Sl) = T
  have lt : ∀ (x : Int) (n : Nat),(rn fns m (n + 3)).tst T st (.cmp .Lt (.var 4) (.lit (.int x))) = some (decide (y < x),st):=fun x n=>by rw [← hT]; rfl
  have le5 : ∀ n : Nat,(rn fns m (n + 5)).tst T st (.cmp .Eq (.bcall .len [(.var 5)]) (.lit (.int 0))) = some (false,st):=fun n=>by rw [← hT]; rfl
  have le6 : ∀ n : Nat,(rn fns m (n + 5)).tst T st (.cmp .Eq (.bcall .len [(.var 6)]) (.lit (.int 0))) = some (false,st):=fun n=>by rw [← hT]; rfl
  have ga : ∀ (x : Int) (n : Nat),(rn fns m (n + 5)).tst T st (.cmp .Gt (.idx (.var 2) (.lit (.int 2))) (.lit (.int x))) = some (decide (d > x),st):=fun x n=>by rw [← hT]; rfl
  have or5 : ∀ (x z : Int) (n : Nat),(rn fns m (n + 10)).tst T st (.or (.cmp .Lt (.var 4) (.lit (.int x))) (.and (.cmp .Lt (.var 4) (.lit (.int z))) (.cmp .Eq (.bcall .len [(.var 5)]) (.lit (.int 0))))) = some (decide (y < x),st):=fun x z n=>by
    rw [tst_k]
    simp only [stepTst,lt,Option.bind_some]
    by_cases h : y < x
    · simp only [h,decide_true,if_true]
    · simp only [h,decide_false,Bool.false_eq_true,if_false]
      rw [tst_k]
      simp only [stepTst,lt,le5,Option.bind_some]
      by_cases h2 : y < z <;> simp [h2]
  have or6 : ∀ (x z : Int) (n : Nat),(rn fns m (n + 10)).tst T st (.or (.cmp .Lt (.var 4) (.lit (.int x))) (.and (.cmp .Lt (.var 4) (.lit (.int z))) (.cmp .Eq (.bcall .len [(.var 6)]) (.lit (.int 0))))) = some (decide (y < x),st):=fun x z n=>by
    rw [tst_k]
    simp only [stepTst,lt,Option.bind_some]
    by_cases h : y < x
    · simp only [h,decide_true,if_true]
    · simp only [h,decide_false,Bool.false_eq_true,if_false]
      rw [tst_k]
      simp only [stepTst,lt,le6,Option.bind_some]
      by_cases h2 : y < z <;> simp [h2]
  have an : ∀ n : Nat,(rn fns m (n + 10)).tst T st (.and (.cmp .Lt (.var 4) (.lit (.int 5))) (.cmp .Gt (.idx (.var 2) (.lit (.int 2))) (.lit (.int 0)))) = some (decide (y < 5∧d > 0),st):=fun n=>by
    rw [tst_k]
    simp only [stepTst,lt,ga,Option.bind_some]
    by_cases h : y < 5 <;> simp [h]
  by_cases h1 : y < 3
  · obtain ⟨f,hf,e⟩:=vein_ok hn (m:=m) (by omega) k w t d w0 w1 t0 t1 d0 d1 st
    refine ⟨f,hf,exs_ret ((stepEx_ite_t (st':=st) (by rw [or5,decide_eq_true h1])).trans ?_)⟩
    rw [ex_k]
    refine exs_ret ?_
    have c : (rn fns m (0 + 29)).ev T st (.call 18 [(.var 0),(.var 1),(.var 2)]) = some (fD f,st):=by rw [← hT]; exact e
    simp only [stepEx,c,Option.map_some]
  rw [exs_ite_f (n:=29) (by rw [or5,decide_eq_false h1])]
  by_cases h2 : y < 5∧d > 0
  · obtain ⟨a,a0,a1,ea⟩:=dex hn (N:=m) (by omega) k 5 d (by omega) (by omega) (by omega)
    obtain ⟨p,p0,p1,ep⟩:=pick_ok hn (m:=m) (by omega) k 1 (by decide) (by decide) [7] (by simp) (by simp)
    obtain ⟨q,q0,q1,eq⟩:=pick_ok hn (m:=m) (by omega) k 3 (by decide) (by decide) [7] (by simp) (by simp)
    obtain ⟨f,hf,ef⟩:=good_word (w:=[106,111,105,110]) (is:=[p,q,1 + a]) (by simp [wordsN]) (fun i hi=>by
      simp only [List.mem_cons,List.not_mem_nil,or_false] at hi
      rcases hi with rfl | rfl | rfl <;> omega)
    refine ⟨f,hf,exs_ret ((stepEx_ite_t (st':=st) (by rw [an,decide_eq_true h2])).trans ?_)⟩
    rw [ex_k,← hT]
    rw [exs_cons (τ':=[some (sD ns),some (.int k),some (zD w t d),some (plD v),some (.int y),some (.lst [.int 7]),some (.lst [.int v]),some (.int (1 + a))]) (s':=st) (set_ok (ev_bin (n:=28) (a:=.int 1) (b:=.int a) rfl (gc_call (n:=25) (ds:=[sD ns,.int k,.int 5,.int d]) rfl (ea st) rfl) (pA _ _ _)) rfl)]
    generalize hU : ([some (sD ns),some (.int k),some (zD w t d),some (plD v),some (.int y),some (.lst [.int 7]),some (.lst [.int v]),some (.int (1 + a))] : Sl) = U
    have l0 : (rn fns m (0 + 28)).ev U st (.lit (.str (PySem.Str.ofString "join"))) = some (tD [106,111,105,110],st):=by rw [xJoin]; rfl
    have l1 : (rn fns m (0 + 28)).ev U st (.gc (.call 17 [(.var 0),(.var 1),(.lit (.int 1)),(.var 5)])) = some (.int p,st):=gc_call (n:=25) (ds:=[sD ns,.int k,.int 1,.lst ([7].map D.int)]) (by rw [← hU]; rfl) (ep st) rfl
    have l2 : (rn fns m (0 + 28)).ev U st (.gc (.call 17 [(.var 0),(.var 1),(.lit (.int 3)),(.var 5)])) = some (.int q,st):=gc_call (n:=25) (ds:=[sD ns,.int k,.int 3,.lst ([7].map D.int)]) (by rw [← hU]; rfl) (eq st) rfl
    have l3 : (rn fns m (0 + 28)).ev U st (.var 7) = some (.int (1 + a),st):=by rw [← hU]; rfl
    refine exs_ret ?_
    simp only [stepEx]
    rw [ev_k]
    simp only [stepEv,evs,l0,l1,l2,l3,Option.bind_some]
    rw [ef]
    rfl
  rw [exs_ite_f (n:=29) (by rw [an,decide_eq_false h2])]
  by_cases h3 : y < 12
  · obtain ⟨g,g0,g1,eg⟩:=who_ok hn (m:=m) (by omega) k 1 (by decide) (by decide)
    obtain ⟨a1,a2,a3,a4,_,_,_,_,_,_,_,_,ea⟩:=rect_ok hn (m:=m) (by omega) k 3 w t (by decide) (by decide) (by omega) (by omega)
    obtain ⟨f,hf,ef⟩:=good_word (w:=[115,116,97,107,101]) (is:=[g,a1,a2,a3,a4]) (by simp [wordsN]) (fun i hi=>by
      simp only [List.mem_cons,List.not_mem_nil,or_false] at hi
      rcases hi with rfl | rfl | rfl | rfl | rfl <;> omega)
    refine ⟨f,hf,exs_ret ((stepEx_ite_t (st':=st) (by rw [or6,decide_eq_true h3])).trans ?_)⟩
    rw [ex_k]
    have l0 : (rn fns m (0 + 27)).ev T st (.lit (.str (PySem.Str.ofString "stake"))) = some (tD [115,116,97,107,101],st):=by rw [xStake]; rfl
    have l1 : (rn fns m (0 + 27)).ev T st (.gc (.call 16 [(.var 0),(.var 1),(.lit (.int 1))])) = some (.int g,st):=gc_call (n:=24) (ds:=[sD ns,.int k,.int 1]) (by rw [← hT]; rfl) (eg st) rfl
    have l2 : (rn fns m (0 + 28)).ev T st (.tup [(.lit (.str (PySem.Str.ofString "stake"))),(.gc (.call 16 [(.var 0),(.var 1),(.lit (.int 1))]))]) = some (.tup [tD [115,116,97,107,101],.int g],st):=by
      rw [ev_k]
      simp only [stepEv,evs,l0,l1,Option.bind_some]
      rfl
    have l3 : (rn fns m (0 + 28)).ev T st (.gc (.call 13 [(.var 0),(.var 1),(.lit (.int 3)),(.idx (.var 2) (.lit (.int 0))),(.idx (.var 2) (.lit (.int 1)))])) = some (.tup [.int a1,.int a2,.int a3,.int a4],st):=gc_call (n:=25) (ds:=[sD ns,.int k,.int 3,.int w,.int t]) (by rw [← hT]; rfl) (ea st) rfl
    refine exs_ret ?_
    simp only [stepEx]
    rw [ev_k]
    simp only [stepEv,l2,l3,Option.bind_some]
    rw [ef]
    rfl
  rw [exs_ite_f (n:=29) (by rw [or6,decide_eq_false h3])]
  obtain ⟨f,hf,e⟩:=claim_ok hn (m:=m) (by omega) k (y - 12) w t d (by omega) (by omega) w0 w1 t0 t1 [v] (by simp; omega) (by simp)
  refine ⟨f,hf,exs_ret ?_⟩
  have c : (rn fns m (0 + 30)).ev T st (.call 19 [(.var 0),(.var 1),(.bin .Sub (.var 4) (.lit (.int 12))),(.var 2),(.var 6)]) = some (fD f,st):=by rw [← hT]; exact e st
  simp only [stepEx,c,Option.map_some]
theorem some_ok (hm : 5 ≤ m) (k w t d : Int) (w0 : 1 ≤ w) (w1 : w ≤ 24) (t0 : 1 ≤ t) (t1 : t ≤ 24) (d0 : 0 ≤ d) (d1 : d ≤ 12) (st : Store) : ∃ f : Fact,f.ok∧callD fns m 24 [sD ns,.int k,zD w t d] st = some (fD f,st):=by
  obtain ⟨m,rfl⟩ : ∃ q,m = q + 1:=⟨m - 1,by omega⟩
  obtain ⟨y,y0,y1,ey⟩:=dex hn (N:=m) (by omega) k 24 5 (by decide) (by decide) (by decide)
  suffices h : ∃ f : Fact,f.ok∧exs (stepEx (rn fns m (0 + 20))) b_law_some_fact [some (sD ns),some (.int k),some (zD w t d),none] st = some (.rt (fD f),st) by
    obtain ⟨f,hf,e⟩:=h
    exact ⟨f,hf,call_of (0 + 20) (F:=f_law_some_fact) rfl rfl rfl e⟩
  unfold b_law_some_fact
  rw [exs_cons (τ':=[some (sD ns),some (.int k),some (zD w t d),some (.int y)]) (s':=st) (set_ok (gc_call (n:=17) (ds:=[sD ns,.int k,.int 24,.int 5]) rfl (ey st) rfl) rfl)]
  generalize hT : ([some (sD ns),some (.int k),some (zD w t d),some (.int y)] : Sl) = T
  have tt : ∀ (x : Int) (n : Nat),(rn fns m (n + 4)).tst T st (.cmp .Eq (.var 3) (.lit (.int x))) = some (y == x,st):=fun x n=>by
    rw [← hT]
    simp only [tst_k,stepTst,ev_k,stepEv,List.getElem?_cons_succ,List.getElem?_cons_zero,Option.bind_some,cmpD,eqD_ii,Option.map_some]
  by_cases h0 : y = 0
  · obtain ⟨f,hf,e⟩:=dig_ok hn (m:=m) (by omega) k w t d w0 w1 t0 t1 d0 d1
    refine ⟨f,hf,exs_ret ((stepEx_ite_t (st':=st) (by rw [tt,h0,beq_self_eq_true])).trans ?_)⟩
    rw [ex_k]
    have c : (rn fns m (0 + 19)).ev T st (.call 21 [(.var 0),(.var 1),(.var 2)]) = some (fD f,st):=by rw [← hT]; exact e st
    refine exs_ret ?_
    simp only [stepEx,c,Option.map_some]
  rw [exs_ite_f (n:=19) (by rw [tt,beq_eq_false_iff_ne.mpr h0])]
  by_cases h1 : y = 1
  · obtain ⟨f,hf,e⟩:=pay_ok hn (m:=m) (by omega) k
    refine ⟨f,hf,exs_ret ((stepEx_ite_t (st':=st) (by rw [tt,h1,beq_self_eq_true])).trans ?_)⟩
    rw [ex_k]
    have c : (rn fns m (0 + 19)).ev T st (.call 22 [(.var 0),(.var 1)]) = some (fD f,st):=by rw [← hT]; exact e st
    refine exs_ret ?_
    simp only [stepEx,c,Option.map_some]
  rw [exs_ite_f (n:=19) (by rw [tt,beq_eq_false_iff_ne.mpr h1])]
  obtain ⟨v,v0,v1,ev⟩:=dex hn (N:=m) (by omega) k 21 400 (by decide) (by decide) (by decide)
  obtain ⟨f,hf,e⟩:=fact_ok hn (m:=m) (by omega) k w t d (1 + v) w0 w1 t0 t1 d0 d1 (by omega) (by omega) st
  refine ⟨f,hf,exs_ret ?_⟩
  have pl : (rn fns m (0 + 19)).ev T st (.gc (.lst [(.tup [(.lit (.int 7)),(.tup [(.lit (.str (PySem.Str.ofString "vein")))])]),(.tup [(.bin .Add (.lit (.int 1)) (.gc (.call 10 [(.var 0),(.var 1),(.lit (.int 21)),(.lit (.int 400))]))),(.tup [(.lit (.str (PySem.Str.ofString "stake")))])])])) = some (plD (1 + v),st):=by
    refine gc_lit (n:=0 + 17) (ds:=[.tup [.int 7,.tup [tD wVein]],.tup [.int (1 + v),.tup [tD [115,116,97,107,101]]]]) ?_ (by simp) rfl
    have a : (rn fns m (0 + 17)).ev T st (.tup [(.lit (.int 7)),(.tup [(.lit (.str (PySem.Str.ofString "vein")))])]) = some (.tup [.int 7,.tup [tD wVein]],st):=by rw [xVein]; rfl
    have b1 : (rn fns m (0 + 16)).ev T st (.bin .Add (.lit (.int 1)) (.gc (.call 10 [(.var 0),(.var 1),(.lit (.int 21)),(.lit (.int 400))]))) = some (.int (1 + v),st):=ev_bin (n:=15) (a:=.int 1) (b:=.int v) rfl (gc_call (n:=12) (ds:=[sD ns,.int k,.int 21,.int 400]) (by rw [← hT]; rfl) (ev st) rfl) (pA _ _ _)
    have b2 : (rn fns m (0 + 16)).ev T st (.tup [(.lit (.str (PySem.Str.ofString "stake")))]) = some (.tup [tD [115,116,97,107,101]],st):=by rw [xStake]; rfl
    have b : (rn fns m (0 + 17)).ev T st (.tup [(.bin .Add (.lit (.int 1)) (.gc (.call 10 [(.var 0),(.var 1),(.lit (.int 21)),(.lit (.int 400))]))),(.tup [(.lit (.str (PySem.Str.ofString "stake")))])]) = some (.tup [.int (1 + v),.tup [tD [115,116,97,107,101]]],st):=by
      rw [ev_k]
      simp only [stepEv,evs,b1,b2,Option.bind_some]
      rfl
    simp only [evs,a,b,Option.bind_some]
  have c0 : (rn fns m (0 + 19)).ev T st (.var 0) = some (sD ns,st):=by rw [← hT]; rfl
  have c1 : (rn fns m (0 + 19)).ev T st (.var 1) = some (.int k,st):=by rw [← hT]; rfl
  have c2 : (rn fns m (0 + 19)).ev T st (.var 2) = some (zD w t d,st):=by rw [← hT]; rfl
  simp only [stepEx]
  rw [ev_k]
  simp only [stepEv,evs,c0,c1,c2,pl,Option.bind_some,call_k,e,Option.map_some]
end
end K07
end
section
set_option linter.all false
set_option maxRecDepth 10000
set_option maxHeartbeats 4000000
namespace K07
open M
open PySem (Str)
noncomputable def bDay : D:=.tup [.int 1,.int 400]
noncomputable def bFolk : D:=.tup [.int 1,.int 40]
noncomputable def bCoins : D:=.tup [.int 1,.int (10 ^ 6)]
noncomputable def bX : D:=.tup [.int 0,.int 0]
noncomputable def bOne : D:=.tup [.int 1,.int 1]
noncomputable def bL : List (List D):=[[bDay,bDay,bOne],[bFolk,bX,bX,bX,bX],[bDay],[bDay,bFolk],[bDay,.tup [.int 0,.int 1],.tup [.int 1,.int 23],bFolk],[bDay],[bFolk,bX,bX,bX,bX,.tup [.int 0,.int 1],bCoins],[bFolk,bFolk,bCoins]]
noncomputable def bRows (n : Nat) : List (D × D):=wordsN.zipIdx.map fun q=>(tD q.1.1,.loc (n + q.2))
noncomputable def bS : Store:=.dic (bRows 1)::bL.map (.lst true)
theorem bounds_ok (m i : Nat) (p : List Nat × Nat) (h : wordsN[i]? = some p) : callD fns (m + 1) 23 [zD 1 1 1,tD p.1] [] = some (.loc (1 + i),bS):=by
  refine call_of (0 + 20) (F:=f_law_bounds) rfl rfl rfl ?_
  show exs (stepEx (rn fns m (0 + 20))) b_law_bounds [some (zD 1 1 1),some (tD p.1),none,none,none,none,none,none] [] = _
  unfold b_law_bounds
  rw [xJoin,xStake,xWork,xSell,xPart,xGive,xDig,xPay]
  rw [exs_cons (τ':=[some (zD 1 1 1),some (tD p.1),some bDay,none,none,none,none,none]) (s':=[]) rfl]
  rw [exs_cons (τ':=[some (zD 1 1 1),some (tD p.1),some bDay,some bFolk,none,none,none,none]) (s':=[]) rfl]
  rw [exs_cons (τ':=[some (zD 1 1 1),some (tD p.1),some bDay,some bFolk,some bCoins,none,none,none]) (s':=[]) rfl]
  rw [exs_cons (τ':=[some (zD 1 1 1),some (tD p.1),some bDay,some bFolk,some bCoins,some bX,none,none]) (s':=[]) rfl]
  rw [exs_cons (τ':=[some (zD 1 1 1),some (tD p.1),some bDay,some bFolk,some bCoins,some bX,some bX,none]) (s':=[]) rfl]
  rw [exs_cons (τ':=[some (zD 1 1 1),some (tD p.1),some bDay,some bFolk,some bCoins,some bX,some bX,some (.loc 0)]) (s':=.dic ((bRows 1).take 3)::(bL.take 3).map (.lst true)) rfl]
  rw [exs_cons (τ':=[some (zD 1 1 1),some (tD p.1),some bDay,some bFolk,some bCoins,some bX,some bX,some (.loc 0)]) (s':=.dic ((bRows 1).take 4)::(bL.take 4).map (.lst true)) rfl]
  rw [exs_cons (τ':=[some (zD 1 1 1),some (tD p.1),some bDay,some bFolk,some bCoins,some bX,some bX,some (.loc 0)]) (s':=.dic ((bRows 1).take 5)::(bL.take 5).map (.lst true)) rfl]
  rw [exs_cons (τ':=[some (zD 1 1 1),some (tD p.1),some bDay,some bFolk,some bCoins,some bX,some bX,some (.loc 0)]) (s':=.dic ((bRows 1).take 6)::(bL.take 6).map (.lst true)) rfl]
  rw [exs_cons (τ':=[some (zD 1 1 1),some (tD p.1),some bDay,some bFolk,some bCoins,some bX,some bX,some (.loc 0)]) (s':=.dic ((bRows 1).take 7)::(bL.take 7).map (.lst true)) rfl]
  rw [exs_cons (τ':=[some (zD 1 1 1),some (tD p.1),some bDay,some bFolk,some bCoins,some bX,some bX,some (.loc 0)]) (s':=.dic ((bRows 1).take 8)::(bL.take 8).map (.lst true)) rfl]
  refine exs_ret ?_
  rcases i with _ | _ | _ | _ | _ | _ | _ | _ | i
  all_goals first | (cases h; rfl) | skip
  cases h
theorem bnd_len (m n i : Nat) (p : List Nat × Nat) (h : wordsN[i]? = some p) (τ : Sl) (h3 : τ[3]? = some (some (tD p.1))) : (rn fns (m + 1) (n + 10)).ev τ [] (.bcall .len [(.gc (.call 23 [(.tup [(.lit (.int 1)),(.lit (.int 1)),(.lit (.int 1))]),(.var 3)]))]) = some (.int p.2,[]):=by
  have e:=bounds_ok m i p h
  have hb : ∃ ds,bS[1 + i]? = some (.lst true ds)∧noLocs ds = true∧ds.length = p.2:=by
    rcases i with _ | _ | _ | _ | _ | _ | _ | _ | i
    all_goals first | (cases h; exact ⟨_,rfl,rfl,rfl⟩) | skip
    cases h
  obtain ⟨ds,d1,d2,d3⟩:=hb
  have g : gcD [] (.loc (1 + i),bS) = (.lst ds,[]):=by
    have:=gc_new' (st:=[]) (r:=bS) (k:=1 + i) d2 d1
    rw [show ([] : Store).length + (1 + i) = 1 + i from Nat.zero_add _] at this
    exact this
  have c : (rn fns (m + 1) (n + 9)).ev τ [] (.gc (.call 23 [(.tup [(.lit (.int 1)),(.lit (.int 1)),(.lit (.int 1))]),(.var 3)])) = some (.lst ds,[]):=by
    have v : (rn fns (m + 1) (n + 7)).ev τ [] (.var 3) = some (tD p.1,[]):=ev_var h3
    have z : (rn fns (m + 1) (n + 7)).ev τ [] (.tup [(.lit (.int 1)),(.lit (.int 1)),(.lit (.int 1))]) = some (zD 1 1 1,[]):=rfl
    rw [ev_k]
    simp only [stepEv]
    rw [ev_k]
    simp only [stepEv,evs,v,z,Option.bind_some,call_k,e,Option.map_some,g]
  rw [ev_k]
  simp only [stepEv,evs,c,Option.bind_some,bfun,bLen,seqAt,Option.map_some,d3]
end K07
end
section
set_option linter.all false
set_option maxRecDepth 10000
set_option maxHeartbeats 4000000
namespace K07
open M
open PySem (Str)
noncomputable def looseB : List S:=[.expr (.meth (.var 6) .append [(.tup [(.gc (.call 26 [(.var 0),(.var 1),(.bin .Add (.lit (.int 16)) (.bin .Mult (.lit (.int 8)) (.var 7)))])),(.gc (.call 26 [(.var 0),(.var 1),(.bin .Add (.lit (.int 20)) (.bin .Mult (.lit (.int 8)) (.var 7)))]))])])]
theorem pMul (S : Store) {a b : Int} (h1 : -(2 ^ 64) < a) (h2 : a < 2 ^ 64) : binop S .Mult (.int a) (.int b) = some (.int (a * b),S):=by
  simp only [binop]
  rw [if_pos (mulOk_l h1 h2)]
section
variable {ns : List Int} (hn : ns.length ≤ 63) {m : Nat}
include hn
theorem loose_turn (hm : 2 ≤ m) (k : Int) (τ : Sl) (i : Nat) (hi : i < 20) (st : Store) (h0 : τ[0]? = some (some (sD ns))) (h1 : τ[1]? = some (some (.int k))) (h6 : τ[6]? = some (some (.loc st.length))) (h7 : τ[7]? = some (some (.int (0 + (i : Int))))) (cs : List (Nat × Nat)) (hcs : okC cs) (hlen : cs.length = i) :
    ∃ p : Nat × Nat,(nSm p.1∧nSm p.2)∧(rn fns m (0 + 30)).ex τ (st++[.lst true (cs.map cD)]) looseB = some (.nx τ,st++[.lst true ((cs++[p]).map cD)]):=by
  obtain ⟨B,hB⟩ : ∃ B,B = st++[.lst true (cs.map cD)]:=⟨_,rfl⟩
  have gr : ∀ j : Int,0 ≤ j→j ≤ 30→∃ q : Nat,nSm q∧(rn fns m (0 + 26)).ev τ B (.gc (.call 26 [(.var 0),(.var 1),(.bin .Add (.lit (.int j)) (.bin .Mult (.lit (.int 8)) (.var 7)))])) = some (iD q,B):=fun j j0 j1=>by
    refine ⟨_,(great_n ns k (j + 8 * (0 + (i : Int)))).1,?_⟩
    have v0 : (rn fns m (0 + 24)).ev τ B (.var 0) = some (sD ns,B):=ev_var h0
    have v1 : (rn fns m (0 + 24)).ev τ B (.var 1) = some (.int k,B):=ev_var h1
    have v2 : (rn fns m (0 + 24)).ev τ B (.bin .Add (.lit (.int j)) (.bin .Mult (.lit (.int 8)) (.var 7))) = some (.int (j + 8 * (0 + (i : Int))),B) :=
      ev_bin (n:=23) (a:=.int j) (b:=.int (8 * (0 + (i : Int)))) rfl (ev_bin (n:=22) (a:=.int 8) (b:=.int (0 + (i : Int))) rfl (ev_var h7) (pMul B (by decide) (by decide))) (pA _ _ _)
    exact gc_call (n:=0 + 23) (ds:=[sD ns,.int k,.int (j + 8 * (0 + (i : Int)))]) (by simp only [evs,v0,v1,v2,Option.bind_some]) (great_ok hDraw hGreat hm B ns k (j + 8 * (0 + (i : Int))) hn (by omega) (by omega)) rfl
  obtain ⟨q1,n1,e1⟩:=gr 16 (by omega) (by omega)
  obtain ⟨q2,n2,e2⟩:=gr 20 (by omega) (by omega)
  refine ⟨(q1,q2),⟨n1,n2⟩,?_⟩
  have tp : (rn fns m (0 + 27)).ev τ B (.tup [(.gc (.call 26 [(.var 0),(.var 1),(.bin .Add (.lit (.int 16)) (.bin .Mult (.lit (.int 8)) (.var 7)))])),(.gc (.call 26 [(.var 0),(.var 1),(.bin .Add (.lit (.int 20)) (.bin .Mult (.lit (.int 8)) (.var 7)))]))]) = some (cD (q1,q2),B):=by
    rw [ev_k]
    simp only [stepEv,evs,e1,e2,Option.bind_some]
    rfl
  unfold looseB
  generalize E.tup [(.gc (.call 26 [(.var 0),(.var 1),(.bin .Add (.lit (.int 16)) (.bin .Mult (.lit (.int 8)) (.var 7)))])),(.gc (.call 26 [(.var 0),(.var 1),(.bin .Add (.lit (.int 20)) (.bin .Mult (.lit (.int 8)) (.var 7)))]))] = Xe at tp
  rw [hB] at tp
  have tp' : (runK (callD fns m) (0 + 28)).ev τ (st++[.lst true (cs.map cD)]) Xe = some (cD (q1,q2),st++[.lst true (cs.map cD)]):=ev_up tp (by omega)
  have ap:=app_end (c:=callD fns m) (n:=0 + 28) (i:=6) (e:=Xe) h6 tp' (by rw [List.length_map]; omega) (by omega)
  rw [ex_k,exs_cons (τ':=τ) (s':=st++[.lst true ((cs++[(q1,q2)]).map cD)]) (by
    simp only [stepEx]
    rw [ap,List.map_append]
    rfl)]
  rfl
theorem loose_loop (hm : 2 ≤ m) (k : Int) (W w a5 : D) (st : Store) :
    ∃ (cs : List (Nat × Nat)) (a : Option D),okC cs∧cs.length ≤ 20∧cs ≠ []∧stepEx (rn fns m (0 + 30)) [some (sD ns),some (.int k),some W,some w,none,some a5,some (.loc st.length),none] (st++[.lst true []]) (.forr (.var 7) (.rng1 (.bin .Add (.lit (.int 1)) (.gc (.call 10 [(.var 0),(.var 1),(.lit (.int 15)),(.lit (.int 4))])))) looseB) = some (.nx [some (sD ns),some (.int k),some W,some w,none,some a5,some (.loc st.length),a],st++[.lst true (cs.map cD)]):=by
  obtain ⟨v,v0,v1,ev⟩:=dex hn (N:=m) (by omega) k 15 4 (by decide) (by decide) (by decide)
  have hb : big (1 + v) = false:=by
    unfold big
    simp
    omega
  have hs : src (rn fns m (0 + 30)) [some (sD ns),some (.int k),some W,some w,none,some a5,some (.loc st.length),none] (st++[.lst true []]) (.rng1 (.bin .Add (.lit (.int 1)) (.gc (.call 10 [(.var 0),(.var 1),(.lit (.int 15)),(.lit (.int 4))])))) = some (.rng 0 (1 + v).toNat,st++[.lst true []]):=by
    have g : (rn fns m (0 + 30)).ev [some (sD ns),some (.int k),some W,some w,none,some a5,some (.loc st.length),none] (st++[.lst true []]) (.bin .Add (.lit (.int 1)) (.gc (.call 10 [(.var 0),(.var 1),(.lit (.int 15)),(.lit (.int 4))]))) = some (.int (1 + v),st++[.lst true []]) :=
      ev_bin (n:=29) (a:=.int 1) (b:=.int v) rfl (gc_call (n:=26) (ds:=[sD ns,.int k,.int 15,.int 4]) rfl (ev _) rfl) (pA _ _ _)
    simp only [src,g,Option.bind_some,hb,Bool.false_eq_true,if_false]
  obtain ⟨τ',S',el,cs,a,h1,h2,hcs,hlen⟩:=loop_rng (lo:=0) (n:=(1 + v).toNat) (τ:=[some (sD ns),some (.int k),some W,some w,none,some a5,some (.loc st.length),none]) (st:=st++[.lst true []])
    (f:=fun τ st d=>(setT (.var 7) d τ).bind fun τ'=>(rn fns m (0 + 30)).ex τ' st looseB)
    (fun i τ S=>∃ (cs : List (Nat × Nat)) (a : Option D),τ = [some (sD ns),some (.int k),some W,some w,none,some a5,some (.loc st.length),a]∧S = st++[.lst true (cs.map cD)]∧okC cs∧cs.length = i) ⟨[],none,rfl,rfl,(fun o ho=>by cases ho),rfl⟩ (by
      rintro i τ S hi ⟨cs,a,rfl,rfl,hok,hlen⟩
      obtain ⟨p,hp,o4⟩:=loose_turn hn hm k [some (sD ns),some (.int k),some W,some w,none,some a5,some (.loc st.length),some (.int (0 + (i : Int)))] i (by omega) st rfl rfl rfl rfl cs hok hlen
      have s7 : setT (.var 7) (.int (0 + (i : Int))) [some (sD ns),some (.int k),some W,some w,none,some a5,some (.loc st.length),a] = some [some (sD ns),some (.int k),some W,some w,none,some a5,some (.loc st.length),some (.int (0 + (i : Int)))]:=rfl
      refine ⟨[some (sD ns),some (.int k),some W,some w,none,some a5,some (.loc st.length),some (.int (0 + (i : Int)))],st++[.lst true ((cs++[p]).map cD)],?_,cs++[p],_,rfl,rfl,fun q hq=>?_,by rw [List.length_append,hlen]; rfl⟩
      · rw [s7,Option.bind_some]
        exact o4
      · rcases List.mem_append.mp hq with h | h
        · exact hok q h
        · rw [List.mem_singleton.mp h]; exact hp)
  refine ⟨cs,a,hcs,by omega,fun h=>?_,?_⟩
  · rw [h] at hlen
    simp at hlen
    omega
  · subst h1 h2
    simp only [stepEx]
    rw [hs]
    simp only [Option.bind_some,Src.size]
    exact el
end
end K07
end
section
set_option linter.all false
set_option maxRecDepth 10000
set_option maxHeartbeats 4000000
namespace K07
open M
open PySem (Str)
noncomputable def WL : List (List Nat):=wVein::wordsN.map Prod.fst
section
variable {ns : List Int} (hn : ns.length ≤ 63) {m : Nat}
include hn
theorem loose_ok (hm : 3 ≤ m) (k : Int) : ∃ (f : Fact) (r : Store),f.ok∧callD fns m 27 [sD ns,.int k] [] = some (fD f,r):=by
  obtain ⟨m,rfl⟩ : ∃ q,m = q + 1:=⟨m - 1,by omega⟩
  obtain ⟨y,y0,y1,ey⟩:=dex hn (N:=m) (by omega) k 0 9 (by decide) (by decide) (by decide)
  suffices h : ∃ (f : Fact) (r : Store),f.ok∧exs (stepEx (rn fns m (0 + 30))) b_law_loose_fact [some (sD ns),some (.int k),none,none,none,none,none,none] [] = some (.rt (fD f),r) by
    obtain ⟨f,r,hf,e⟩:=h
    exact ⟨f,r,hf,call_of (0 + 30) (F:=f_law_loose_fact) rfl rfl rfl e⟩
  unfold b_law_loose_fact
  have ll : (rn fns m (0 + 30)).ev [some (sD ns),some (.int k),none,none,none,none,none,none] [] (.gc (.lst [(.lit (.str (PySem.Str.ofString "vein"))),(.lit (.str (PySem.Str.ofString "join"))),(.lit (.str (PySem.Str.ofString "stake"))),(.lit (.str (PySem.Str.ofString "work"))),(.lit (.str (PySem.Str.ofString "sell"))),(.lit (.str (PySem.Str.ofString "part"))),(.lit (.str (PySem.Str.ofString "give"))),(.lit (.str (PySem.Str.ofString "dig"))),(.lit (.str (PySem.Str.ofString "pay")))])) = some (.lst (WL.map tD),[]):=by
    rw [xVein,xJoin,xStake,xWork,xSell,xPart,xGive,xDig,xPay]
    exact gc_lit (n:=0 + 28) rfl (by simp [WL,wordsN]) rfl
  rw [exs_cons (τ':=[some (sD ns),some (.int k),some (.lst (WL.map tD)),none,none,none,none,none]) (s':=[]) (set_ok ll rfl)]
  have hix : ∀ S,idxD S (.lst (WL.map tD)) (.int y) = some (tD (WL.getD y.toNat [])):=fun S=>ix_lst tD WL [] y y0 y1 S
  generalize WL.map tD = G at hix
  generalize hw : WL.getD y.toNat [] = w at hix
  rw [exs_cons (τ':=[some (sD ns),some (.int k),some (.lst G),some (tD w),none,none,none,none]) (s':=[]) (by
    have g : (rn fns m (0 + 29)).ev [some (sD ns),some (.int k),some (.lst G),none,none,none,none,none] [] (.gc (.call 10 [(.var 0),(.var 1),(.lit (.int 0)),(.lit (.int 9))])) = some (.int y,[]):=gc_call (n:=26) (ds:=[sD ns,.int k,.int 0,.int 9]) rfl (ey []) rfl
    have g2 : (rn fns m (0 + 29)).ev [some (sD ns),some (.int k),some (.lst G),none,none,none,none,none] [] (.var 2) = some (.lst G,[]):=rfl
    refine set_ok (d:=tD w) ?_ rfl
    rw [ev_k]
    simp only [stepEv,g,g2,Option.bind_some,hix,Option.map_some])]
  have tt : ∀ n : Nat,(rn fns m (n + 5)).tst [some (sD ns),some (.int k),some (.lst G),some (tD w),none,none,none,none] [] (.cmp .NotEq (.var 3) (.lit (.str (PySem.Str.ofString "vein")))) = some (!(w == wVein),[]):=fun n=>by
    have a : ∀ n : Nat,(rn fns m (n + 1)).ev [some (sD ns),some (.int k),some (.lst G),some (tD w),none,none,none,none] [] (.var 3) = some (tD w,[]):=fun n=>rfl
    have b : ∀ n : Nat,(rn fns m (n + 1)).ev [some (sD ns),some (.int k),some (.lst G),some (tD w),none,none,none,none] [] (.lit (.str (PySem.Str.ofString "vein"))) = some (tD wVein,[]):=fun n=>by rw [xVein]; rfl
    rw [tst_k]
    simp only [stepTst,a,b,Option.bind_some,cmpD,neD,eq_tt,Option.map_some]
  by_cases h0 : y = 0
  · have hv : w = wVein:=by rw [← hw,h0]; rfl
    subst hv
    rw [exs_ite_f (n:=29) (by rw [tt,beq_self_eq_true]; rfl)]
    obtain ⟨x,x0,x1,ex⟩:=dex hn (N:=m) (by omega) k 14 13 (by decide) (by decide) (by decide)
    have hbx : big x = false:=by unfold big; simp; omega
    let F : Nat→Nat:=fun i=>(drawV ns k (1 + (0 + (i : Int))) 10).toNat
    have cy : (rn fns m (0 + 30)).ev [some (sD ns),some (.int k),some (.lst G),some (tD wVein),none,none,none,none] [] (.gc (.comp (.var 0) (.rng1 (.gc (.call 10 [(.var 0),(.var 1),(.lit (.int 14)),(.lit (.int 13))]))) none (.gc (.call 10 [(.var 1),(.var 2),(.bin .Add (.lit (.int 1)) (.var 0)),(.lit (.int 10))])) [none,some 0,some 1])) = some (.lst ((List.range x.toNat).map fun i=>iD (F i)),[]):=by
      refine gc_comp (c:=callD fns m) (n:=0 + 28) (s:=.rng 0 x.toNat) (rest:=[some (sD ns),some (.int k)]) (List.range x.toNat) (fun (i : Nat)=>.int ((0 : Int) + i)) (fun i=>iD (F i)) ?_ (fun i=>at_rng 0 _ i) (by simp [Src.size]) rfl (by simp; omega) (fun _ _=>rfl) (fun i hi=>?_)
      · have g : (runK (callD fns m) (0 + 28)).ev [some (sD ns),some (.int k),some (.lst G),some (tD wVein),none,none,none,none] [] (.gc (.call 10 [(.var 0),(.var 1),(.lit (.int 14)),(.lit (.int 13))])) = some (.int x,[]):=gc_call (n:=25) (ds:=[sD ns,.int k,.int 14,.int 13]) rfl (ex []) rfl
        simp only [src,g,Option.bind_some,hbx,Bool.false_eq_true,if_false]
      · have hi':=List.mem_range.mp hi
        have d:=drw hDraw (N:=m) (by omega) hn [] k (1 + (0 + (i : Int))) 10 (by omega) (by omega) (by omega)
        have l:=drawV_lo ns k (1 + (0 + (i : Int))) (many:=10) (by decide)
        have : iD (F i) = .int (drawV ns k (1 + (0 + (i : Int))) 10):=by
          show D.int (((drawV ns k (1 + (0 + (i : Int))) 10).toNat : Nat) : Int) = _
          rw [Int.toNat_of_nonneg l]
        rw [this]
        exact gc_call (n:=25) (ds:=[sD ns,.int k,.int (1 + (0 + (i : Int))),.int 10]) rfl d rfl
    obtain ⟨ss,hss,s1,s2⟩ : ∃ ss : List Nat,(List.range x.toNat).map (fun i=>iD (F i)) = ss.map iD∧(∀ s ∈ ss,s < 10)∧ss.length ≤ 20:=⟨(List.range x.toNat).map F,by rw [List.map_map]; rfl,fun s hs=>by
      obtain ⟨i,hi,rfl⟩:=List.mem_map.mp hs
      have l:=drawV_lo ns k (1 + (0 + (i : Int))) (many:=10) (by decide)
      have u:=drawV_hi ns k (1 + (0 + (i : Int))) (many:=10) (by decide)
      show (drawV ns k (1 + (0 + (i : Int))) 10).toNat < 10
      omega,by simp; omega⟩
    rw [hss] at cy
    rw [exs_cons (τ':=[some (sD ns),some (.int k),some (.lst G),some (tD wVein),none,some (.lst (ss.map iD)),none,none]) (s':=[]) (set_ok cy rfl)]
    rw [exs_cons (τ':=[some (sD ns),some (.int k),some (.lst G),some (tD wVein),none,some (.lst (ss.map iD)),some (.loc 0),none]) (s':=[.lst true []]) rfl]
    obtain ⟨cs,a,c1,c2,c3,el⟩:=loose_loop hn (m:=m) (by omega) k (.lst G) (tD wVein) (.lst (ss.map iD)) []
    refine ⟨.vein ss cs,[.lst true (cs.map cD)],⟨s1,s2,c1,c2,c3⟩,?_⟩
    refine (exs_cons (τ':=[some (sD ns),some (.int k),some (.lst G),some (tD wVein),none,some (.lst (ss.map iD)),some (.loc 0),a]) (s':=[.lst true (cs.map cD)]) el).trans ?_
    refine exs_ret ?_
    have l0 : (rn fns m (0 + 29)).ev [some (sD ns),some (.int k),some (.lst G),some (tD wVein),none,some (.lst (ss.map iD)),some (.loc 0),a] [.lst true (cs.map cD)] (.lit (.str (PySem.Str.ofString "vein"))) = some (tD wVein,[.lst true (cs.map cD)]):=by rw [xVein]; rfl
    have l1 : (rn fns m (0 + 29)).ev [some (sD ns),some (.int k),some (.lst G),some (tD wVein),none,some (.lst (ss.map iD)),some (.loc 0),a] [.lst true (cs.map cD)] (.bcall .tuple [(.var 5)]) = some (.tup (ss.map iD),[.lst true (cs.map cD)]):=rfl
    have l2 : (rn fns m (0 + 29)).ev [some (sD ns),some (.int k),some (.lst G),some (tD wVein),none,some (.lst (ss.map iD)),some (.loc 0),a] [.lst true (cs.map cD)] (.bcall .tuple [(.var 6)]) = some (.tup (cs.map cD),[.lst true (cs.map cD)]):=rfl
    simp only [stepEx]
    rw [ev_k]
    simp only [stepEv,evs,l0,l1,l2,Option.bind_some]
    rfl
  · obtain ⟨i,hi,hi2⟩ : ∃ i : Nat,y = (i : Int) + 1∧i < 8:=⟨(y - 1).toNat,by omega,by omega⟩
    obtain ⟨p,hp,hpw⟩ : ∃ p,wordsN[i]? = some p∧w = p.1:=by
      have h2 : i < wordsN.length:=hi2
      refine ⟨wordsN[i],List.getElem?_eq_getElem h2,?_⟩
      rw [← hw,show y.toNat = i + 1 by omega]
      show (wVein::wordsN.map Prod.fst).getD (i + 1) [] = _
      rw [List.getD_cons_succ,List.getD_eq_getElem?_getD,List.getElem?_map,List.getElem?_eq_getElem h2]
      rfl
    have hpm:=List.mem_of_getElem? hp
    have hg:=words_gd p hpm
    subst hpw
    let ks : List Nat:=(List.range p.2).map fun (i : Nat)=>greatN ns k (1 + 4 * (0 + (i : Int)))
    have hks : ks.length = p.2:=by simp [ks]
    refine ⟨.word p.1 ks,[],⟨by rw [hks]; exact hpm,fun q hq=>by
      obtain ⟨i,_,rfl⟩:=List.mem_map.mp hq
      exact (great_n _ _ _).1⟩,exs_ret ((stepEx_ite_t (st':=[]) (by rw [tt,beq_eq_false_iff_ne.mpr hg.2.1]; rfl)).trans ?_)⟩
    obtain ⟨m',rfl⟩ : ∃ q,m = q + 1:=⟨m - 1,by omega⟩
    rw [ex_k,exs_cons (τ':=[some (sD ns),some (.int k),some (.lst G),some (tD p.1),some (.int p.2),none,none,none]) (s':=[]) (set_ok (bnd_len m' 19 i p hp _ rfl) rfl)]
    have hbx : big (p.2 : Int) = false:=by unfold big; simp; omega
    have cy : (rn fns (m' + 1) (0 + 27)).ev [some (sD ns),some (.int k),some (.lst G),some (tD p.1),some (.int p.2),none,none,none] [] (.gc (.comp (.var 0) (.rng1 (.var 4)) none (.gc (.call 26 [(.var 1),(.var 2),(.bin .Add (.lit (.int 1)) (.bin .Mult (.lit (.int 4)) (.var 0)))])) [none,some 0,some 1])) = some (.lst (ks.map iD),[]):=by
      have key:=gc_comp (c:=callD fns (m' + 1)) (n:=0 + 25) (τ:=[some (sD ns),some (.int k),some (.lst G),some (tD p.1),some (.int p.2),none,none,none]) (st:=[]) (it:=.rng1 (.var 4)) (elt:=.gc (.call 26 [(.var 1),(.var 2),(.bin .Add (.lit (.int 1)) (.bin .Mult (.lit (.int 4)) (.var 0)))])) (sr:=[none,some 0,some 1]) (s:=.rng 0 p.2) (rest:=[some (sD ns),some (.int k)]) (List.range p.2) (fun (i : Nat)=>.int ((0 : Int) + i)) (fun (i : Nat)=>iD (greatN ns k (1 + 4 * (0 + (i : Int))))) (by
        simp only [src,ev_k,stepEv,List.getElem?_cons_succ,List.getElem?_cons_zero,Option.bind_some,hbx,Bool.false_eq_true,if_false,Int.toNat_natCast]) (fun i=>at_rng 0 _ i) (by simp [Src.size]) rfl (by simp; omega) (fun _ _=>rfl) (fun i hi=>by
        have hi':=List.mem_range.mp hi
        have v2 : (runK (callD fns (m' + 1)) (0 + 23)).ev [some (.int ((0 : Int) + i)),some (sD ns),some (.int k)] [] (.bin .Add (.lit (.int 1)) (.bin .Mult (.lit (.int 4)) (.var 0))) = some (.int (1 + 4 * (0 + (i : Int))),[]) :=
          ev_bin (n:=22) (a:=.int 1) (b:=.int (4 * (0 + (i : Int)))) rfl (ev_bin (n:=21) (a:=.int 4) (b:=.int (0 + (i : Int))) rfl rfl (pMul [] (by decide) (by decide))) (pA _ _ _)
        have v0 : (runK (callD fns (m' + 1)) (0 + 23)).ev [some (.int ((0 : Int) + i)),some (sD ns),some (.int k)] [] (.var 1) = some (sD ns,[]):=rfl
        have v1 : (runK (callD fns (m' + 1)) (0 + 23)).ev [some (.int ((0 : Int) + i)),some (sD ns),some (.int k)] [] (.var 2) = some (.int k,[]):=rfl
        exact gc_call (n:=0 + 22) (ds:=[sD ns,.int k,.int (1 + 4 * (0 + (i : Int)))]) (by simp only [evs,v0,v1,v2,Option.bind_some]) (great_ok hDraw hGreat (by omega) [] ns k (1 + 4 * (0 + (i : Int))) hn (by omega) (by omega)) rfl)
      have key' : (rn fns (m' + 1) (0 + 27)).ev _ _ _ = _:=key
      rw [key']
      simp only [ks,List.map_map]
      rfl
    have l1 : (rn fns (m' + 1) (0 + 28)).ev [some (sD ns),some (.int k),some (.lst G),some (tD p.1),some (.int p.2),none,none,none] [] (.bcall .tuple [(.gc (.comp (.var 0) (.rng1 (.var 4)) none (.gc (.call 26 [(.var 1),(.var 2),(.bin .Add (.lit (.int 1)) (.bin .Mult (.lit (.int 4)) (.var 0)))])) [none,some 0,some 1]))]) = some (.tup (ks.map iD),[]):=by
      rw [ev_k]
      simp only [stepEv,evs,cy,Option.bind_some,bfun,bTuple,seqAt,Option.map_some]
    have l0 : (rn fns (m' + 1) (0 + 28)).ev [some (sD ns),some (.int k),some (.lst G),some (tD p.1),some (.int p.2),none,none,none] [] (.tup [(.var 3)]) = some (.tup [tD p.1],[]):=rfl
    have hadd : binop [] .Add (.tup [tD p.1]) (.tup (ks.map iD)) = some (fD (.word p.1 ks),[]):=by
      simp only [binop]
      rw [if_neg (by unfold lim; simp; omega)]
      rfl
    refine exs_ret ?_
    simp only [stepEx]
    rw [ev_k]
    simp only [stepEv,l0,l1,Option.bind_some,hadd,Option.map_some]
end
theorem law_ok (ns : List Int) (hn : ns.length ≤ 63) : ∃ st',callD fns 20 28 [.lst (ns.map D.int)] [] = some (.bl true,st'):=by
  obtain ⟨f1,r,hf1,e1⟩:=loose_ok hn (m:=19) (by omega) 1
  obtain ⟨w,t,d,w0,w1,t0,t1,d0,d1,es⟩:=size_ok hn (m:=19) (by omega) 0
  obtain ⟨f2,hf2,e2⟩:=some_ok hn (m:=19) (by omega) 1 w t d w0 w1 t0 t1 d0 d1 []
  obtain ⟨y,y0,y1,ey⟩:=dex hn (N:=19) (by omega) 0 10 2 (by decide) (by decide) (by decide)
  refine ⟨[],call_of (0 + 30) (F:=f_law) rfl rfl rfl ?_⟩
  show exs (stepEx (rn fns 19 (0 + 30))) b_law [some (sD ns),none,none] [] = _
  unfold b_law
  have g1 : ∀ n : Nat,(rn fns 19 (n + 6)).ev [some (sD ns),none,none] [] (.gc (.call 27 [(.var 0),(.lit (.int 1))])) = some (fD f1,[]):=fun n=>by
    have:=gc_app (st:=[]) (r:=r) (fD_nl f1)
    simp only [ev_k,stepEv,evs,List.getElem?_cons_zero,Option.bind_some,call_k,e1,Option.map_some]
    exact congrArg some this
  rw [exs_cons (τ':=[some (sD ns),some (fD f1),none]) (s':=[]) (set_ok (g1 24) rfl)]
  obtain ⟨f,hf,ef⟩ : ∃ f : Fact,f.ok∧stepEx (rn fns 19 (0 + 30)) [some (sD ns),some (fD f1),none] [] (.ite (.cmp .Eq (.gc (.call 10 [(.var 0),(.lit (.int 0)),(.lit (.int 10)),(.lit (.int 2))])) (.lit (.int 0))) [.set (.var 1) (.gc (.call 24 [(.var 0),(.lit (.int 1)),(.gc (.call 12 [(.var 0),(.lit (.int 0))]))]))] []) = some (.nx [some (sD ns),some (fD f),none],[]):=by
    have tt : (rn fns 19 (0 + 30)).tst [some (sD ns),some (fD f1),none] [] (.cmp .Eq (.gc (.call 10 [(.var 0),(.lit (.int 0)),(.lit (.int 10)),(.lit (.int 2))])) (.lit (.int 0))) = some (y == 0,[]):=by
      simp only [tst_k,stepTst,ev_k,stepEv,evs,List.getElem?_cons_zero,Option.bind_some,call_k,ey,Option.map_some,gc_int,cmpD,eqD_ii]
    by_cases h : y = 0
    · refine ⟨f2,hf2,(stepEx_ite_t (st':=[]) (by rw [tt,h]; rfl)).trans ?_⟩
      have s : (rn fns 19 (0 + 27)).ev [some (sD ns),some (fD f1),none] [] (.gc (.call 12 [(.var 0),(.lit (.int 0))])) = some (zD w t d,[]):=gc_call (n:=24) (ds:=[sD ns,.int 0]) rfl (es []) rfl
      have c : (rn fns 19 (0 + 29)).ev [some (sD ns),some (fD f1),none] [] (.gc (.call 24 [(.var 0),(.lit (.int 1)),(.gc (.call 12 [(.var 0),(.lit (.int 0))]))])) = some (fD f2,[]):=by
        refine gc_call (n:=0 + 26) (ds:=[sD ns,.int 1,zD w t d]) ?_ e2 (fD_nl f2)
        have a0 : (runK (callD fns 19) (0 + 26 + 1)).ev [some (sD ns),some (fD f1),none] [] (.var 0) = some (sD ns,[]):=rfl
        have a1 : (runK (callD fns 19) (0 + 26 + 1)).ev [some (sD ns),some (fD f1),none] [] (.lit (.int 1)) = some (.int 1,[]):=rfl
        have a2 : (runK (callD fns 19) (0 + 26 + 1)).ev [some (sD ns),some (fD f1),none] [] (.gc (.call 12 [(.var 0),(.lit (.int 0))])) = some (zD w t d,[]):=s
        simp only [evs,a0,a1,a2,Option.bind_some]
      rw [ex_k,exs_cons (τ':=[some (sD ns),some (fD f2),none]) (s':=[]) (set_ok c rfl)]
      rfl
    · exact ⟨f1,hf1,(stepEx_ite_f (st':=[]) (by rw [tt,beq_eq_false_iff_ne.mpr h])).trans rfl⟩
  rw [exs_cons ef]
  have a2:=shown_ok 17 [] f hf
  have a3:=written_ok 18 [] f hf
  have a4:=same_eq hSame (k:=0) (d:=tD (fX f)) .str 19 [] (by omega)
  have a5:=rfact_ok 13 [] f hf
  have a6:=same_eq hSame (dp_f hf) 19 [] (by omega)
  rw [exs_cons (τ':=[some (sD ns),some (fD f),some (tD (fX f))]) (s':=[]) (set_ok (gc_call (n:=27) (ds:=[fD f]) rfl a2 rfl) rfl)]
  generalize hT : ([some (sD ns),some (fD f),some (tD (fX f))] : Sl) = T
  have v1 : ∀ n : Nat,(rn fns 19 (n + 1)).ev T [] (.var 1) = some (fD f,[]):=fun n=>by rw [← hT]; rfl
  have v2 : ∀ n : Nat,(rn fns 19 (n + 1)).ev T [] (.var 2) = some (tD (fX f),[]):=fun n=>by rw [← hT]; rfl
  have g3 : ∀ n : Nat,(rn fns 19 (n + 6)).ev T [] (.gc (.call 25 [(.var 1)])) = some (tD (fX f),[]):=fun n=>by
    refine gc_call (n:=n + 3) (ds:=[fD f]) ?_ a3 rfl
    simp only [evs,v1,Option.bind_some]
  have g4 : ∀ n : Nat,(rn fns 19 (n + 10)).ev T [] (.gc (.call 11 [(.var 2),(.gc (.call 25 [(.var 1)]))])) = some (.bl true,[]):=fun n=>by
    refine gc_call (n:=n + 7) (ds:=[tD (fX f),tD (fX f)]) ?_ a4 rfl
    simp only [evs,v2,g3,Option.bind_some]
  rw [exs_ite_f (n:=29) (by
    rw [tst_k]
    simp only [stepTst,tst_k,g4,Option.bind_some,truth,Option.map_some,Bool.not_true])]
  have g5 : ∀ n : Nat,(rn fns 19 (n + 6)).ev T [] (.gc (.call 9 [(.var 2)])) = some (fD f,[]):=fun n=>by
    refine gc_call (n:=n + 3) (ds:=[tD (fX f)]) ?_ a5 (fD_nl f)
    simp only [evs,v2,Option.bind_some]
  refine exs_ret ?_
  simp only [stepEx]
  rw [ev_k]
  simp only [stepEv,evs,g5,v1,Option.bind_some,call_k,a6,Option.map_some]
end K07
end
section
set_option linter.all false
set_option Elab.async false
set_option maxRecDepth 100000
set_option maxHeartbeats 4000000
namespace MS
open PySem PySem.Spec PyProof.Rows L2
theorem noFill_tuple_mul : fillsNumberSlot (.type "tuple") "mul" = pure false :=
  PySem.fillsNumberSlot_seq (id:="tuple.__mul__") (r:=some (.builtin "tuple.__rmul__")) F.slot_tuple_mul.lookup (by decide +kernel) F.slot_tuple_rmul.lookup (by decide +kernel)
theorem repeat_tuple : seqRepeat? (.type "tuple") = pure (some (.builtin "tuple.__mul__")):=by
  unfold seqRepeat?
  rw [PySem.seqSlot_of (T:="tuple") (name:="__mul__") (id:="tuple.__mul__") F.slot_tuple_mul.lookup (by decide +kernel),PySem.seqSlot_of (T:="tuple") (name:="__rmul__") (id:="tuple.__rmul__") F.slot_tuple_rmul.lookup (by decide +kernel)]
  rfl
theorem int_rmul_tuple (a : Int) (t : Tok) (l : Addr) (items : Array Value) (n : Nat) (dd : Option Addr) (sl : Array (Option Value)) :
    Meets (Builtin.«int.__rmul__» ⟨[.int a t,.ref l],[]⟩) (fun _ R s=>s.heap.get? l = some { cls:=.type "tuple",dict:=dd,data:=.seq items n,slots:=sl }∧R (.ok (.ret Value.notImplemented)) s) :=
  .of_wp fun prog w A R s h=>by obtain ⟨hp,g,d,tk,os⟩:=s; obtain ⟨hl,h⟩:=h; wp_walk; exact ⟨_,rfl,h⟩
theorem tuple_mul_same (l : Addr) (items : Array Value) (n : Nat) (dd : Option Addr) (sl : Array (Option Value)) (x : Int) (u : Tok) (h0 : ¬ (decide (x < -(2 ^ 63)) || decide (x ≥ 2 ^ 63)) = true) (h1 : (items.isEmpty || x == 1) = true) :
    Meets (Builtin.«tuple.__mul__» ⟨[.ref l,.int x u],[]⟩) (fun _ R s=>s.heap.get? l = some { cls:=.type "tuple",dict:=dd,data:=.seq items n,slots:=sl }∧R (.ok (.ret (Value.ref l))) s) :=
  .of_wp fun prog w A R s h=>by
    obtain ⟨hp,g,d,tk,os⟩:=s; obtain ⟨hl,h⟩:=h
    wp_walk
    simp only [if_neg h0]
    wp_walk
    exact ⟨_,rfl,h⟩
theorem tuple_mul_none (l : Addr) (items : Array Value) (n : Nat) (dd : Option Addr) (sl : Array (Option Value)) (x : Int) (u : Tok) (h0 : ¬ (decide (x < -(2 ^ 63)) || decide (x ≥ 2 ^ 63)) = true) (h1 : ¬ (items.isEmpty || x == 1) = true) (h2 : (decide (x ≤ 0) || items.isEmpty) = true) :
    Meets (Builtin.«tuple.__mul__» ⟨[.ref l,.int x u],[]⟩) (fun _ R s=>s.heap.get? l = some { cls:=.type "tuple",dict:=dd,data:=.seq items n,slots:=sl }∧R (.ok (.ret (Value.ref s.heap.objs.size))) { s with heap:=s.heap.push { cls:=.type "tuple",data:=.seq #[] } }) :=
  .of_wp fun prog w A R s h=>by
    obtain ⟨hp,g,d,tk,os⟩:=s; obtain ⟨hl,h⟩:=h
    wp_walk
    simp only [if_neg h0]
    wp_walk
    exact ⟨_,rfl,h⟩
theorem tuple_mul_more (l : Addr) (items : Array Value) (n : Nat) (dd : Option Addr) (sl : Array (Option Value)) (x : Int) (u : Tok) (h0 : ¬ (decide (x < -(2 ^ 63)) || decide (x ≥ 2 ^ 63)) = true) (h1 : ¬ (items.isEmpty || x == 1) = true) (h2 : ¬ (decide (x ≤ 0) || items.isEmpty) = true)
    (h3 : ¬ ((items.size : Int) * x > (2 ^ 63 - 1) / 8)) (h4 : ¬ Builtin.Tuple.tupleTooMany ((items.size : Int) * x) = true) (h5 : (List.foldl (fun x1 x2=>x1++x2) #[] (List.replicate x.toNat items)).size ≤ sizeLine) :
    Meets (Builtin.«tuple.__mul__» ⟨[.ref l,.int x u],[]⟩) (fun _ R s=>s.heap.get? l = some { cls:=.type "tuple",dict:=dd,data:=.seq items n,slots:=sl }∧R (.ok (.ret (Value.ref s.heap.objs.size))) { s with heap:=s.heap.push { cls:=.type "tuple",data:=.seq (List.foldl (fun x1 x2=>x1++x2) #[] (List.replicate x.toNat items)) } }) :=
  .of_wp fun prog w A R s h=>by
    obtain ⟨hp,g,d,tk,os⟩:=s; obtain ⟨hl,h⟩:=h
    wp_walk
    simp only [if_neg h0]
    wp_walk
    simp only [if_neg h3]
    wp_walk
    exact ⟨_,rfl,h⟩
noncomputable def rRepT (K : PySem.W.Frag) : R2:=fun x y H Q=>∃ l k xs,x = .ref l∧y = .int k∧SqT K H l xs∧-(2 ^ 62) ≤ k∧k < 2 ^ 62∧xs.length * k.toNat ≤ sizeLine ∧
  (∀ ys,ys = (List.replicate k.toNat xs).flatten→(ys = xs→Q (.ref l) H)∧∀ p,H p = none→Q (.ref p) (upd H p (.tup ys)))
theorem op_repT {X : Cx} : OpR X (binaryOp .Mult) (rRepT X.K):=by
  intro pins s σ H x y v u Q I rx ry h
  obtain ⟨l,k,xs,rfl,rfl,hq,k1,k2,hz,q⟩:=h
  cases rx
  obtain ⟨t,rfl⟩:=ry
  obtain ⟨its,r,hp,hz0⟩:=I.tuple hq
  obtain ⟨⟨cls,dd,data,sl⟩,ho,hc,n,hd⟩:=id hp
  simp only at hc hd
  subst hc hd
  have hl:=r.length
  obtain ⟨qs,qn⟩:=q _ rfl
  have f0 : ∀ m : Nat,List.foldl (fun x1 x2=>x1++x2) #[] (List.replicate m its.toArray) = (List.replicate m its).flatten.toArray:=fun m=>by
    have:=foldl_rep its m []
    rw [List.nil_append] at this
    exact this
  have h0 : ¬ (decide (k < -(2 ^ 63)) || decide (k ≥ 2 ^ 63)) = true:=by simp; omega
  refine wpAny_binaryOp_repeat_ref (T:="tuple") (U:="int") (by decide) ⟨_,ho,rfl⟩ (fun s'=>typeIs_int s' k t) noFill_tuple_mul F.fills_int_mul F.slot_int_rmul repeat_tuple F.slot_int_index.lookup
    (call_meets F.slot_int_rmul (typeIs_int s k t) F.entry_int_rmul (F.args_int_rmul_2 _ _) (int_rmul_tuple k t l its.toArray n dd sl) ⟨ho,rfl,⟨_,ho,rfl⟩,?_⟩)
  by_cases h1 : (its.toArray.isEmpty || k == 1) = true
  · refine call_meets F.slot_tuple_mul ⟨_,ho,rfl⟩ F.entry_tuple_mul (F.args_tuple_mul_2 _ _) (tuple_mul_same l its.toArray n dd sl k t h0 h1) ⟨ho,?_⟩
    refine ⟨.ref l,H,I,rfl,qs ?_⟩
    rw [Bool.or_eq_true] at h1
    rcases h1 with z | z
    · have e1 : its = []:=by simpa using z
      have e2 : xs = []:=List.length_eq_zero_iff.mp (by rw [hl,e1]; rfl)
      rw [e2]
      simp
    · have e1 : k = 1:=by simpa using z
      rw [e1]
      simp
  · have hne : its ≠ []:=fun z=>h1 (by rw [z]; rfl)
    by_cases h2 : (decide (k ≤ 0) || its.toArray.isEmpty) = true
    · refine call_meets F.slot_tuple_mul ⟨_,ho,rfl⟩ F.entry_tuple_mul (F.args_tuple_mul_2 _ _) (tuple_mul_none l its.toArray n dd sl k t h0 h1 h2) ⟨ho,?_⟩
      have hk : k ≤ 0:=by
        rw [Bool.or_eq_true] at h2
        rcases h2 with z | z
        · simpa using z
        · exact absurd (by simpa using z) hne
      have e0 : k.toNat = 0:=by omega
      refine ⟨.ref _,_,I.laid (a:=s.heap.objs.size) (o:=.tup (List.replicate k.toNat xs).flatten) (t':=s.toks) (fun _ _ e=>Heap.get?_push_of_some _ e) (Nat.le_refl _) ?_,rfl,qn _ I.fresh⟩
      rw [e0]
      exact ⟨Nat.zero_le _,[],.nil,IsTup.new s.heap _⟩
    · have hk : 0 < k:=by
        simp at h2; omega
      have hmul : ((its.toArray.size : Nat) : Int) * k = ((its.length * k.toNat : Nat) : Int):=by
        rw [List.size_toArray,Int.natCast_mul]
        congr 1
        omega
      have hz' : its.length * k.toNat ≤ sizeLine:=by rw [← hl]; exact hz
      have hsl : (sizeLine : Nat) < 2 ^ 60:=by rw [sizeLine_eq]; decide
      refine call_meets F.slot_tuple_mul ⟨_,ho,rfl⟩ F.entry_tuple_mul (F.args_tuple_mul_2 _ _) (tuple_mul_more l its.toArray n dd sl k t h0 h1 h2 ?_ ?_ ?_) ⟨ho,?_⟩
      · rw [hmul]; omega
      · unfold Builtin.Tuple.tupleTooMany
        rw [hmul,decide_eq_true_eq]
        omega
      · rw [f0,List.size_toArray,len_rep,Nat.mul_comm]; exact hz'
      · refine ⟨.ref _,_,I.laid (a:=s.heap.objs.size) (o:=.tup (List.replicate k.toNat xs).flatten) (t':=s.toks) (fun _ _ e=>Heap.get?_push_of_some _ e) (Nat.le_refl _) ?_,rfl,qn _ I.fresh⟩
        rw [f0]
        exact ⟨by rw [len_rep,Nat.mul_comm]; exact hz,_,r.rep k.toNat,IsTup.new s.heap _⟩
section
variable {prog : Program} {w : World} {A : Around} {E : Value→Shared→Prop} {s : Shared}
theorem getItem_tuple_whole {t sl : Addr} {items : Array Value} {vl vu : Value} {lo hi : Option Int} {Q : Value→Shared→Prop} (ht : IsTup s.heap t items) (hs : s.heap.IsSliceOf sl vl vu .none) (pl : IsPart vl lo) (pu : IsPart vu hi)
    (hw : HT.sIx items.size 0 lo = 0∧HT.sIx items.size items.size hi = items.size) (h : Q (.ref t) s) : wpAny (model prog w) A (getItem (.ref t) (.ref sl)) Q E s:=by
  obtain ⟨os,hos,hcs,hds⟩:=id hs
  have hTs : s.TypeIs (.ref sl) "slice":=⟨os,hos,hcs⟩
  unfold getItem
  try with_reducible refine wpAny_holding ?_
  first | refine wpAny_bind (wpAny_pure ?_) | skip
  refine wpAny_bind (wpAny_sequenceKey ht.typeIs (by decide) ?_)
  refine wpAny_bind (wpAny_callSpecial?_slot (name:=Str.ofString "__getitem__") ht.typeIs PyProof.Rows.slot_tuple_getitem
    (wpAny_call_entry PyProof.Rows.slot_tuple_getitem ht.typeIs entry_tuple_getitem ?_ (args_tuple_getitem _ _)))
  show wpAny _ _ (Builtin.Tuple.tupleItemsOf (.ref t) >>= _) _ _ s
  refine wpAny_bind (tupleItemsOf_ ht ?_)
  refine wpAny_bind (wpAny_typeOf hTs ?_)
  rw [if_pos (by decide)]
  refine wpAny_bind (HT.sliceApplied_gen hs pl pu ?_)
  have hyes : (((HT.sIx items.size 0 lo : Nat) : Int) == 0 && (1 : Int) == 1 && (HT.sIx items.size items.size hi - HT.sIx items.size 0 lo) == items.size) = true:=by
    rw [hw.1,hw.2]
    simp
  show wpAny _ _ (if (((HT.sIx items.size 0 lo : Nat) : Int) == 0 && (1 : Int) == 1 && (HT.sIx items.size items.size hi - HT.sIx items.size 0 lo) == items.size) = true then _ else _) _ _ s
  rw [if_pos hyes]
  refine wpAny_bind (m:=Builtin.Tuple.tupleIsExact _) ?_
  unfold Builtin.Tuple.tupleIsExact
  refine wpAny_bind (wpAny_typeOf ht.typeIs (wpAny_pure ?_))
  rw [if_pos (by decide)]
  first
    | exact wpAny_bind (wpAny_rule (wpAny_pure ⟨_,rfl,wpAny_pure h⟩))
    | exact wpAny_bind (wpAny_rule (wpAny_bind (wpAny_pure (wpAny_pure ⟨_,rfl,wpAny_pure h⟩))))
    | exact wpAny_bind (wpAny_bind (wpAny_rule (wpAny_pure (wpAny_pure ⟨_,rfl,wpAny_pure h⟩))))
end
end MS
end
section
set_option linter.all false
set_option Elab.async false
set_option maxRecDepth 100000
namespace MS
open PySem PySem.Spec PyProof.Rows L2
open M (D Cell Store Sl)
noncomputable def SqF (K : PySem.W.Frag) (H : Hp) (a : Addr) (xs : List V) : Prop :=
  (∃ o,H a = some (.frz o (.lst xs)))∨∃ (o : Obj) (its : Array Value) (n : Nat),K.lookup a = some o∧o.cls = .type "list"∧o.dict = none∧o.data = .seq its n∧its.size ≤ sizeLine∧Vals xs its.toList
mutual
noncomputable def IsD (K : PySem.W.Frag) (m : List Addr) (H : Hp) : D→V→Prop
  | .non,v=>v = .non
  | .bl b,v=>v = .bl b
  | .int i,v=>v = .int i
  | .str s,v=>v = .str s
  | .tup ds,v=>∃ a xs,v = .ref a∧SqT K H a xs∧IsDs K m H ds xs
  | .lst ds,v=>∃ a xs,v = .ref a∧SqF K H a xs∧IsDs K m H ds xs
  | .loc l,v=>∃ a,m[l]? = some a∧v = .ref a
noncomputable def IsDs (K : PySem.W.Frag) (m : List Addr) (H : Hp) : List D→List V→Prop
  | [],xs=>xs = []
  | d::ds,xs=>∃ x r,xs = x::r∧IsD K m H d x∧IsDs K m H ds r
end
noncomputable def Sub (m m' : List Addr) : Prop:=∀ (l : Nat) (a : Addr),m[l]? = some a→m'[l]? = some a
structure Tr (H H' : Hp) : Prop where
  tup : ∀ b xs,H b = some (.tup xs)→H' b = some (.tup xs)
  frz : ∀ b o u,H b = some (.frz o u)→H' b = some (.frz o u)
theorem Sub.refl (m : List Addr) : Sub m m:=fun _ _ h=>h
theorem Sub.trans {m m1 m2 : List Addr} (a : Sub m m1) (b : Sub m1 m2) : Sub m m2:=fun l x h=>b l x (a l x h)
theorem Sub.app (m r : List Addr) : Sub m (m++r):=fun l a h=>by
  rw [List.getElem?_append_left (List.getElem?_eq_some_iff.mp h).1]; exact h
theorem Tr.refl (H : Hp) : Tr H H:=⟨fun _ _ h=>h,fun _ _ _ h=>h⟩
theorem Tr.trans {H H1 H2 : Hp} (a : Tr H H1) (b : Tr H1 H2) : Tr H H2:=⟨fun c xs h=>b.tup c xs (a.tup c xs h),fun c o u h=>b.frz c o u (a.frz c o u h)⟩
theorem Tr.of_same {H H' : Hp} (h : Same H H') : Tr H H':=⟨fun b xs e=>h b _ e,fun b o u e=>h b _ e⟩
theorem same_new {H : Hp} {p : Addr} {o : HO} (hp : H p = none) : Same H (upd H p o):=fun b u e=>by
  rw [upd_ne (ne_of_none e hp)]; exact e
theorem Tr.put {H : Hp} {p : Addr} {xs ys : List V} (hp : H p = some (.lst xs)) : Tr H (upd H p (.lst ys)) :=
  ⟨fun b zs e=>by rw [upd_ne (ne_of e hp (by intro z; cases z))]; exact e,fun b o u e=>by rw [upd_ne (ne_of e hp (by intro z; cases z))]; exact e⟩
theorem Tr.sqT {K : PySem.W.Frag} {H H' : Hp} {a : Addr} {xs : List V} (t : Tr H H') (h : SqT K H a xs) : SqT K H' a xs:=by
  rcases h with (h | ⟨o,h⟩) | h
  · exact .inl (.inl (t.tup _ _ h))
  · exact .inl (.inr ⟨o,t.frz _ _ _ h⟩)
  · exact .inr h
theorem SqF.sq {K : PySem.W.Frag} {H : Hp} {a : Addr} {xs : List V} (h : SqF K H a xs) : SqL K H a xs:=by
  rcases h with h | h
  · exact .inl (.inr h)
  · exact .inr h
theorem Tr.sqF {K : PySem.W.Frag} {H H' : Hp} {a : Addr} {xs : List V} (t : Tr H H') (h : SqF K H a xs) : SqF K H' a xs:=by
  rcases h with ⟨o,h⟩ | h
  · exact .inl ⟨o,t.frz _ _ _ h⟩
  · exact .inr h
section
variable {K : PySem.W.Frag} {m m' : List Addr} {H H' : Hp}
mutual
theorem isD_mono (hs : Sub m m') (ht : Tr H H') : ∀ (d : D) (v : V),IsD K m H d v→IsD K m' H' d v
  | .non,_,h=>h
  | .bl _,_,h=>h
  | .int _,_,h=>h
  | .str _,_,h=>h
  | .tup ds,_,h=>by
    unfold IsD at h ⊢
    obtain ⟨a,xs,e,q,r⟩:=h
    exact ⟨a,xs,e,ht.sqT q,isDs_mono hs ht ds xs r⟩
  | .lst ds,_,h=>by
    unfold IsD at h ⊢
    obtain ⟨a,xs,e,q,r⟩:=h
    exact ⟨a,xs,e,ht.sqF q,isDs_mono hs ht ds xs r⟩
  | .loc l,_,h=>by
    unfold IsD at h ⊢
    obtain ⟨a,e,q⟩:=h
    exact ⟨a,hs l a e,q⟩
theorem isDs_mono (hs : Sub m m') (ht : Tr H H') : ∀ (ds : List D) (xs : List V),IsDs K m H ds xs→IsDs K m' H' ds xs
  | [],_,h=>h
  | d::ds,_,h=>by
    unfold IsDs at h ⊢
    obtain ⟨x,r,e,q,t⟩:=h
    exact ⟨x,r,e,isD_mono hs ht d x q,isDs_mono hs ht ds r t⟩
end
theorem IsD.int {i : Int} {v : V} (h : IsD K m H (.int i) v) : v = .int i:=by unfold IsD at h; exact h
theorem IsD.bl {i : Bool} {v : V} (h : IsD K m H (.bl i) v) : v = .bl i:=by unfold IsD at h; exact h
theorem IsD.str {i : Str} {v : V} (h : IsD K m H (.str i) v) : v = .str i:=by unfold IsD at h; exact h
theorem IsD.non {v : V} (h : IsD K m H .non v) : v = .non:=by unfold IsD at h; exact h
theorem IsD.tup {ds : List D} {v : V} (h : IsD K m H (.tup ds) v) : ∃ a xs,v = .ref a∧SqT K H a xs∧IsDs K m H ds xs:=by unfold IsD at h; exact h
theorem IsD.lst {ds : List D} {v : V} (h : IsD K m H (.lst ds) v) : ∃ a xs,v = .ref a∧SqF K H a xs∧IsDs K m H ds xs:=by unfold IsD at h; exact h
theorem IsD.loc {l : Nat} {v : V} (h : IsD K m H (.loc l) v) : ∃ a,m[l]? = some a∧v = .ref a:=by unfold IsD at h; exact h
theorem mkInt (i : Int) : IsD K m H (.int i) (.int i):=by unfold IsD; rfl
theorem mkBl (i : Bool) : IsD K m H (.bl i) (.bl i):=by unfold IsD; rfl
theorem mkStr (i : Str) : IsD K m H (.str i) (.str i):=by unfold IsD; rfl
theorem mkNon : IsD K m H .non .non:=by unfold IsD; rfl
theorem mkTup {ds : List D} {a : Addr} {xs : List V} (h : SqT K H a xs) (q : IsDs K m H ds xs) : IsD K m H (.tup ds) (.ref a):=by unfold IsD; exact ⟨a,xs,rfl,h,q⟩
theorem mkLst {ds : List D} {a : Addr} {xs : List V} (h : SqF K H a xs) (q : IsDs K m H ds xs) : IsD K m H (.lst ds) (.ref a):=by unfold IsD; exact ⟨a,xs,rfl,h,q⟩
theorem mkLoc {l : Nat} {a : Addr} (h : m[l]? = some a) : IsD K m H (.loc l) (.ref a):=by unfold IsD; exact ⟨a,h,rfl⟩
theorem IsDs.nil {xs : List V} (h : IsDs K m H [] xs) : xs = []:=by unfold IsDs at h; exact h
theorem IsDs.cons {d : D} {ds : List D} {xs : List V} (h : IsDs K m H (d::ds) xs) : ∃ x r,xs = x::r∧IsD K m H d x∧IsDs K m H ds r:=by unfold IsDs at h; exact h
theorem mkNil : IsDs K m H [] []:=by unfold IsDs; rfl
theorem mkCons {d : D} {ds : List D} {x : V} {r : List V} (h : IsD K m H d x) (t : IsDs K m H ds r) : IsDs K m H (d::ds) (x::r):=by unfold IsDs; exact ⟨x,r,rfl,h,t⟩
theorem IsDs.one {d : D} {xs : List V} (h : IsDs K m H [d] xs) : ∃ x,xs = [x]∧IsD K m H d x:=by
  obtain ⟨x,r,rfl,q,t⟩:=h.cons
  rw [t.nil]
  exact ⟨x,rfl,q⟩
theorem IsDs.two {d e : D} {xs : List V} (h : IsDs K m H [d,e] xs) : ∃ x y,xs = [x,y]∧IsD K m H d x∧IsD K m H e y:=by
  obtain ⟨x,r,rfl,q,t⟩:=h.cons
  obtain ⟨y,rfl,q'⟩:=t.one
  exact ⟨x,y,rfl,q,q'⟩
theorem IsDs.length : ∀ {ds : List D} {xs : List V},IsDs K m H ds xs→ds.length = xs.length
  | [],_,h=>by rw [h.nil]; rfl
  | _::_,_,h=>by
    obtain ⟨x,r,rfl,_,t⟩:=h.cons
    rw [List.length_cons,List.length_cons,t.length]
theorem IsDs.get : ∀ {ds : List D} {xs : List V} {i : Nat} {d : D},IsDs K m H ds xs→ds[i]? = some d→∃ x,xs[i]? = some x∧IsD K m H d x
  | [],_,_,_,_,e=>by simp at e
  | d::ds,_,0,d',h,e=>by
    obtain ⟨x,r,rfl,q,_⟩:=h.cons
    have e' : d = d':=by simpa using e
    subst e'
    exact ⟨x,rfl,q⟩
  | d::ds,_,i + 1,d',h,e=>by
    obtain ⟨x,r,rfl,_,t⟩:=h.cons
    obtain ⟨y,e1,e2⟩:=t.get (i:=i) (d:=d') (by simpa using e)
    exact ⟨y,by simpa using e1,e2⟩
theorem IsDs.back : ∀ {ds : List D} {xs : List V} {i : Nat} {x : V},IsDs K m H ds xs→xs[i]? = some x→∃ d,ds[i]? = some d∧IsD K m H d x:=fun {ds xs i x} h e=>by
  have hl:=h.length
  have hi:=(List.getElem?_eq_some_iff.mp e).1
  have e2 : ds[i]? = some (ds[i]'(by omega)):=by simp
  obtain ⟨y,e3,q⟩:=h.get e2
  rw [e] at e3
  cases e3
  exact ⟨_,e2,q⟩
theorem IsDs.append : ∀ {ds es : List D} {xs ys : List V},IsDs K m H ds xs→IsDs K m H es ys→IsDs K m H (ds++es) (xs++ys)
  | [],_,_,_,h,q=>by rw [h.nil]; exact q
  | _::_,_,_,_,h,q=>by
    obtain ⟨x,r,rfl,a,t⟩:=h.cons
    exact mkCons a (t.append q)
theorem IsDs.set : ∀ {ds : List D} {xs : List V} (i : Nat) {d : D} {x : V},IsDs K m H ds xs→IsD K m H d x→IsDs K m H (ds.set i d) (xs.set i x)
  | [],_,_,_,_,h,_=>by rw [h.nil]; exact mkNil
  | _::_,_,0,_,_,h,q=>by
    obtain ⟨x,r,rfl,a,t⟩:=h.cons
    exact mkCons q t
  | _::_,_,i + 1,_,_,h,q=>by
    obtain ⟨x,r,rfl,a,t⟩:=h.cons
    exact mkCons a (t.set i q)
end
noncomputable def keyOf : D→Option Key
  | .int i=>some (.inl i)
  | .str z=>some (.inr z)
  | _=>none
noncomputable def IsKV (K : PySem.W.Frag) (m : List Addr) (H : Hp) : List (D × D)→List (Key × V)→Prop
  | [],xs=>xs = []
  | p::r,xs=>∃ k v xr,xs = (k,v)::xr∧keyOf p.1 = some k∧IsD K m H p.2 v∧IsKV K m H r xr
theorem isKV_mono {K : PySem.W.Frag} {m m' : List Addr} {H H' : Hp} (hs : Sub m m') (ht : Tr H H') : ∀ (kvs : List (D × D)) (xs : List (Key × V)),IsKV K m H kvs xs→IsKV K m' H' kvs xs
  | [],_,h=>h
  | p::r,_,⟨k,v,xr,e,hk,hv,hr⟩=>⟨k,v,xr,e,hk,isD_mono hs ht _ _ hv,isKV_mono hs ht r xr hr⟩
theorem IsKV.length {K : PySem.W.Frag} {m : List Addr} {H : Hp} : ∀ {kvs : List (D × D)} {xs : List (Key × V)},IsKV K m H kvs xs→kvs.length = xs.length
  | [],_,h=>by rw [show _ = [] from h]; rfl
  | p::r,_,⟨k,v,xr,e,_,_,hr⟩=>by rw [e,List.length_cons,List.length_cons,hr.length]
theorem eq_key {a b : D} {k j : Key} (ha : keyOf a = some k) (hb : keyOf b = some j) : M.eqT a b = decide (k = j):=by
  cases a with
  | int i =>
    cases ha
    cases b with
    | int i'=>cases hb; rw [M.eqT]; by_cases h : i = i' <;> simp [h]
    | str z=>cases hb; simp [M.eqT]
    | _=>cases hb
  | str z =>
    cases ha
    cases b with
    | int i'=>cases hb; simp [M.eqT]
    | str z'=>cases hb; rw [M.eqT]; by_cases h : z = z' <;> simp [h]
    | _=>cases hb
  | _=>cases ha
theorem key_of {a : D} (h : M.isKey a = true) : ∃ k,keyOf a = some k:=by
  cases a with
  | int i=>exact ⟨_,rfl⟩
  | str z=>exact ⟨_,rfl⟩
  | _=>cases h
theorem key_V {K : PySem.W.Frag} {m : List Addr} {H : Hp} {a : D} {k : Key} {v : V} (h : keyOf a = some k) (i : IsD K m H a v) : v = kV k:=by
  cases a with
  | int i'=>cases h; exact i.int
  | str z=>cases h; exact i.str
  | _=>cases h
theorem IsKV.get {K : PySem.W.Frag} {m : List Addr} {H : Hp} {a : D} {j : Key} (ha : keyOf a = some j) : ∀ {kvs : List (D × D)} {xs : List (Key × V)},IsKV K m H kvs xs→(M.dget kvs a = none∧valV xs j = none)∨∃ d v,M.dget kvs a = some d∧valV xs j = some v∧IsD K m H d v
  | [],_,h=>by rw [show _ = [] from h]; exact .inl ⟨rfl,rfl⟩
  | p::r,_,⟨k,v,xr,e,hk,hv,hr⟩=>by
    subst e
    have eq:=eq_key hk ha
    by_cases hkj : k = j
    · refine .inr ⟨p.2,v,?_,valV_pos (p:=(k,v)) hkj,hv⟩
      rw [decide_eq_true hkj] at eq
      simp [M.dget,List.find?_cons,eq]
    · rw [decide_eq_false hkj] at eq
      have e1 : M.dget (p::r) a = M.dget r a:=by simp [M.dget,List.find?_cons,eq]
      rw [e1,valV_neg (p:=(k,v)) hkj]
      exact hr.get ha
theorem IsKV.any {K : PySem.W.Frag} {m : List Addr} {H : Hp} {a : D} {j : Key} (ha : keyOf a = some j) : ∀ {kvs : List (D × D)} {xs : List (Key × V)},IsKV K m H kvs xs→(kvs.any fun p=>M.eqT p.1 a) = (xs.any fun p=>decide (p.1 = j))
  | [],_,h=>by rw [show _ = [] from h]; rfl
  | p::r,_,⟨k,v,xr,e,hk,hv,hr⟩=>by
    subst e
    rw [List.any_cons,List.any_cons,eq_key hk ha,hr.any ha]
theorem IsKV.repl {K : PySem.W.Frag} {m : List Addr} {H : Hp} {a d : D} {j : Key} {w : V} (ha : keyOf a = some j) (hd : IsD K m H d w) : ∀ {kvs : List (D × D)} {xs : List (Key × V)},IsKV K m H kvs xs→IsKV K m H (kvs.map fun p=>if M.eqT p.1 a then (p.1,d) else p) (xs.map fun p=>if p.1 = j then (p.1,w) else p)
  | [],_,h=>by rw [show _ = [] from h]; rfl
  | p::r,_,⟨k,v,xr,e,hk,hv,hr⟩=>by
    subst e
    have eq:=eq_key hk ha
    rw [List.map_cons,List.map_cons]
    by_cases hkj : k = j
    · rw [decide_eq_true hkj] at eq
      rw [if_pos eq,if_pos hkj]
      exact ⟨k,w,_,rfl,hk,hd,hr.repl ha hd⟩
    · rw [decide_eq_false hkj] at eq
      rw [if_neg (by rw [eq]; nofun),if_neg hkj]
      exact ⟨k,v,_,rfl,hk,hv,hr.repl ha hd⟩
theorem IsKV.snoc {K : PySem.W.Frag} {m : List Addr} {H : Hp} {a d : D} {j : Key} {w : V} (ha : keyOf a = some j) (hd : IsD K m H d w) : ∀ {kvs : List (D × D)} {xs : List (Key × V)},IsKV K m H kvs xs→IsKV K m H (kvs++[(a,d)]) (xs++[(j,w)])
  | [],_,h=>by rw [show _ = [] from h]; exact ⟨j,w,[],rfl,ha,hd,rfl⟩
  | p::r,_,⟨k,v,xr,e,hk,hv,hr⟩=>by
    subst e
    exact ⟨k,v,_,rfl,hk,hv,hr.snoc ha hd⟩
theorem IsKV.put {K : PySem.W.Frag} {m : List Addr} {H : Hp} {a d : D} {j : Key} {w : V} {kvs : List (D × D)} {xs : List (Key × V)} (h : IsKV K m H kvs xs) (ha : keyOf a = some j) (hd : IsD K m H d w) : IsKV K m H (M.dput kvs a d) (putK xs j w):=by
  unfold M.dput putK
  rw [h.any ha]
  split
  · exact h.repl ha hd
  · exact h.snoc ha hd
theorem IsKV.merge {K : PySem.W.Frag} {m : List Addr} {H : Hp} : ∀ {more : List (D × D)} {ms : List (Key × V)} {kvs : List (D × D)} {xs : List (Key × V)},IsKV K m H more ms→IsKV K m H kvs xs→IsKV K m H (more.foldl (fun acc p=>M.dput acc p.1 p.2) kvs) (mergeK xs ms)
  | [],_,kvs,xs,h,q=>by rw [show _ = [] from h]; exact q
  | p::r,_,kvs,xs,⟨k,v,xr,e,hk,hv,hr⟩,q=>by
    subst e
    exact hr.merge (q.put hk hv)
noncomputable def IsC (K : PySem.W.Frag) (m : List Addr) (H : Hp) : Cell→Addr→Prop
  | .lst true ds,a=>∃ xs,H a = some (.lst xs)∧IsDs K m H ds xs
  | .lst false ds,a=>∃ xs,SqF K H a xs∧IsDs K m H ds xs
  | .dic kvs,a=>∃ xs,H a = some (.dK xs)∧IsKV K m H kvs xs
noncomputable def Wr : Cell→Bool
  | .lst w _=>w
  | .dic _=>true
structure Rel (K : PySem.W.Frag) (m : List Addr) (st : Store) (H : Hp) : Prop where
  len : m.length = st.length
  nd : ∀ (l l' : Nat) (a : Addr) (c c' : Cell),m[l]? = some a→m[l']? = some a→st[l]? = some c→st[l']? = some c'→Wr c = true→Wr c' = true→l = l'
  cell : ∀ (l : Nat) (c : Cell) (a : Addr),st[l]? = some c→m[l]? = some a→IsC K m H c a
section
variable {K : PySem.W.Frag} {m : List Addr} {st : Store} {H : Hp}
theorem Rel.addr (h : Rel K m st H) {l : Nat} {c : Cell} (e : st[l]? = some c) : ∃ a,m[l]? = some a:=by
  have hl:=(List.getElem?_eq_some_iff.mp e).1
  have:=h.len
  exact ⟨m[l]'(by omega),by simp⟩
theorem IsC.wr {c : Cell} {a : Addr} (h : IsC K m H c a) (w : Wr c = true) : ∃ o,H a = some o:=by
  cases c with
  | lst w' ds =>
    have e : w' = true:=w
    subst e
    obtain ⟨xs,e,_⟩:=h
    exact ⟨_,e⟩
  | dic kvs =>
    obtain ⟨xs,e,_⟩:=h
    exact ⟨_,e⟩
theorem Rel.list (h : Rel K m st H) {l : Nat} {ds : List D} {v : V} (e : M.listAt st l = some ds) (hv : IsD K m H (.loc l) v) : ∃ a xs,m[l]? = some a∧v = .ref a∧SqL K H a xs∧IsDs K m H ds xs:=by
  obtain ⟨a,ha,rfl⟩:=hv.loc
  unfold M.listAt at e
  split at e
  · rename_i w ds' q
    cases e
    have c:=h.cell l _ a q ha
    cases w with
    | true =>
      obtain ⟨xs,e1,e2⟩:=c
      exact ⟨a,xs,ha,rfl,SqL.of e1,e2⟩
    | false =>
      obtain ⟨xs,e1,e2⟩:=c
      exact ⟨a,xs,ha,rfl,e1.sq,e2⟩
  · cases e
theorem Rel.seq (h : Rel K m st H) {d : D} {ds : List D} {v : V} (e : M.seqAt st d = some ds) (hv : IsD K m H d v) : ∃ a xs,True∧v = .ref a∧SqL K H a xs∧IsDs K m H ds xs:=by
  cases d with
  | loc l =>
    obtain ⟨a,xs,_,q⟩:=h.list e hv
    exact ⟨a,xs,trivial,q⟩
  | lst es =>
    cases e
    obtain ⟨a,xs,e,q,r⟩:=hv.lst
    exact ⟨a,xs,trivial,e,q.sq,r⟩
  | _=>cases e
theorem Rel.wlist (h : Rel K m st H) {l : Nat} {ds : List D} {v : V} (e : M.wlistAt st l = some ds) (hv : IsD K m H (.loc l) v) : ∃ a xs,m[l]? = some a∧v = .ref a∧H a = some (.lst xs)∧IsDs K m H ds xs∧st[l]? = some (.lst true ds):=by
  obtain ⟨a,ha,rfl⟩:=hv.loc
  unfold M.wlistAt at e
  split at e
  · rename_i ds' q
    cases e
    obtain ⟨xs,e1,e2⟩:=h.cell l _ a q ha
    exact ⟨a,xs,ha,rfl,e1,e2,q⟩
  · cases e
theorem isC_mono {m' : List Addr} {H' : Hp} (hs : Sub m m') (ht : Tr H H') {c : Cell} {a : Addr} (h : IsC K m H c a) (hw : Wr c = true→H' a = H a) : IsC K m' H' c a:=by
  cases c with
  | lst w ds =>
    cases w with
    | true =>
      obtain ⟨xs,e,q⟩:=h
      exact ⟨xs,(hw rfl).trans e,isDs_mono hs ht ds xs q⟩
    | false =>
      obtain ⟨xs,e,q⟩:=h
      exact ⟨xs,ht.sqF e,isDs_mono hs ht ds xs q⟩
  | dic kvs =>
    obtain ⟨xs,e,q⟩:=h
    exact ⟨xs,(hw rfl).trans e,isKV_mono hs ht kvs xs q⟩
theorem Rel.dict (h : Rel K m st H) {l : Nat} {kvs : List (D × D)} {v : V} (e : M.dicAt st l = some kvs) (hv : IsD K m H (.loc l) v) : ∃ a xs,m[l]? = some a∧v = .ref a∧H a = some (.dK xs)∧IsKV K m H kvs xs∧st[l]? = some (.dic kvs):=by
  obtain ⟨a,ha,rfl⟩:=hv.loc
  unfold M.dicAt at e
  split at e
  · rename_i kvs' q
    cases e
    obtain ⟨xs,e1,e2⟩:=h.cell l _ a q ha
    exact ⟨a,xs,ha,rfl,e1,e2,q⟩
  · cases e
theorem Rel.same (h : Rel K m st H) {H' : Hp} (s : Same H H') : Rel K m st H' :=
  ⟨h.len,h.nd,fun l c a e ea=>isC_mono (Sub.refl m) (Tr.of_same s) (h.cell l c a e ea) fun w=>by
    obtain ⟨xs,q⟩:=(h.cell l c a e ea).wr w
    rw [q]; exact s _ _ q⟩
theorem Rel.newC (h : Rel K m st H) {p : Addr} {o : HO} {c : Cell} (hp : H p = none) (hc : Wr c = true→True) (hd : IsC K (m++[p]) (upd H p o) c p) : Rel K (m++[p]) (st++[c]) (upd H p o):=by
  have ht : Tr H (upd H p o):=Tr.of_same (same_new hp)
  have old : ∀ (l : Nat) (e : Cell) (a : Addr),(st++[c])[l]? = some e→(m++[p])[l]? = some a→(l < st.length∧st[l]? = some e∧m[l]? = some a)∨(l = st.length∧e = c∧a = p):=by
    intro l e a he ea
    by_cases hl : l < st.length
    · rw [List.getElem?_append_left hl] at he
      rw [List.getElem?_append_left (by rw [h.len]; exact hl)] at ea
      exact .inl ⟨hl,he,ea⟩
    · have hlt:=(List.getElem?_eq_some_iff.mp he).1
      rw [List.length_append,List.length_singleton] at hlt
      have e1 : l = st.length:=by omega
      subst e1
      rw [List.getElem?_append_right (Nat.le_refl _)] at he
      rw [List.getElem?_append_right (by rw [h.len]; exact Nat.le_refl _),h.len] at ea
      have e2 : c = e:=by simpa using he
      have e3 : p = a:=by simpa using ea
      exact .inr ⟨rfl,e2.symm,e3.symm⟩
  refine ⟨by simp [h.len],fun l l' a e e' e1 e2 e3 e4 w w'=>?_,fun l e a he ea=>?_⟩
  · rcases old l e a e3 e1 with ⟨h1,q1,r1⟩ | ⟨h1,q1,r1⟩ <;> rcases old l' e' a e4 e2 with ⟨h2,q2,r2⟩ | ⟨h2,q2,r2⟩
    · exact h.nd l l' a e e' r1 r2 q1 q2 w w'
    · obtain ⟨ys,z⟩:=(h.cell l e a q1 r1).wr w
      rw [r2,hp] at z; cases z
    · obtain ⟨ys,z⟩:=(h.cell l' e' a q2 r2).wr w'
      rw [r1,hp] at z; cases z
    · rw [h1,h2]
  · rcases old l e a he ea with ⟨h1,q1,r1⟩ | ⟨h1,q1,r1⟩
    · refine isC_mono (Sub.app m [p]) ht (h.cell l e a q1 r1) fun w=>?_
      obtain ⟨ys,z⟩:=(h.cell l e a q1 r1).wr w
      exact upd_ne (ne_of_none z hp)
    · rw [q1,r1]
      exact hd
theorem Rel.new (h : Rel K m st H) {p : Addr} {ds : List D} {xs : List V} (hp : H p = none) (hd : IsDs K m H ds xs) : Rel K (m++[p]) (st++[.lst true ds]) (upd H p (.lst xs)) :=
  h.newC hp (fun _=>trivial) ⟨xs,upd_same,isDs_mono (Sub.app m [p]) (Tr.of_same (same_new hp)) ds xs hd⟩
theorem Rel.newD (h : Rel K m st H) {p : Addr} {kvs : List (D × D)} {xs : List (Key × V)} (hp : H p = none) (hd : IsKV K m H kvs xs) : Rel K (m++[p]) (st++[.dic kvs]) (upd H p (.dK xs)) :=
  h.newC hp (fun _=>trivial) ⟨xs,upd_same,isKV_mono (Sub.app m [p]) (Tr.of_same (same_new hp)) kvs xs hd⟩
theorem Rel.newLoc (h : Rel K m st H) {p : Addr} {H' : Hp} : IsD K (m++[p]) H' (.loc st.length) (.ref p):=mkLoc (by
  rw [List.getElem?_append_right (by rw [h.len]; exact Nat.le_refl _),h.len]; simp)
theorem Rel.putC (h : Rel K m st H) {l : Nat} {a : Addr} {c c' : Cell} {o : HO} (e : st[l]? = some c) (hw : Wr c = true) (ea : m[l]? = some a) (ht : Tr H (upd H a o)) (hd : IsC K m (upd H a o) c' a) :
    Rel K m (st.set l c') (upd H a o):=by
  have hl:=(List.getElem?_eq_some_iff.mp e).1
  have wr : ∀ (j : Nat) (d : Cell),(st.set l c')[j]? = some d→(j = l∧d = c')∨(j ≠ l∧st[j]? = some d):=by
    intro j d q
    by_cases hj : j = l
    · subst hj
      rw [List.getElem?_set_self hl] at q
      exact .inl ⟨rfl,(Option.some.inj q).symm⟩
    · rw [List.getElem?_set_ne (Ne.symm hj)] at q
      exact .inr ⟨hj,q⟩
  refine ⟨by rw [List.length_set]; exact h.len,fun j j' b d d' e1 e2 e3 e4 w w'=>?_,fun j d b q eb=>?_⟩
  · rcases wr j d e3 with ⟨a1,b1⟩ | ⟨a1,b1⟩ <;> rcases wr j' d' e4 with ⟨a2,b2⟩ | ⟨a2,b2⟩
    · rw [a1,a2]
    · subst a1; exact h.nd _ _ b _ _ e1 e2 e b2 hw w'
    · subst a2; exact h.nd _ _ b _ _ e1 e2 b1 e w hw
    · exact h.nd _ _ b _ _ e1 e2 b1 b2 w w'
  · rcases wr j d q with ⟨a1,b1⟩ | ⟨a1,b1⟩
    · subst a1 b1
      rw [ea] at eb; cases eb
      exact hd
    · refine isC_mono (Sub.refl m) ht (h.cell j d b b1 eb) fun w=>upd_ne fun z=>?_
      subst z
      exact a1 (h.nd _ _ b _ _ eb ea b1 e w hw)
theorem Rel.put (h : Rel K m st H) {l : Nat} {a : Addr} {ds ds' : List D} {xs ys : List V} (e : st[l]? = some (.lst true ds)) (ea : m[l]? = some a) (hH : H a = some (.lst xs)) (hd : IsDs K m H ds' ys) :
    Rel K m (st.set l (.lst true ds')) (upd H a (.lst ys)) :=
  h.putC e rfl ea (Tr.put hH) ⟨ys,upd_same,isDs_mono (Sub.refl m) (Tr.put hH) ds' ys hd⟩
theorem Tr.putD {H : Hp} {p : Addr} {xs ys : List (Key × V)} (hp : H p = some (.dK xs)) : Tr H (upd H p (.dK ys)) :=
  ⟨fun b zs e=>by rw [upd_ne (ne_of e hp (by intro z; cases z))]; exact e,fun b o u e=>by rw [upd_ne (ne_of e hp (by intro z; cases z))]; exact e⟩
theorem Rel.putD (h : Rel K m st H) {l : Nat} {a : Addr} {kvs kvs' : List (D × D)} {xs ys : List (Key × V)} (e : st[l]? = some (.dic kvs)) (ea : m[l]? = some a) (hH : H a = some (.dK xs)) (hd : IsKV K m H kvs' ys) :
    Rel K m (st.set l (.dic kvs')) (upd H a (.dK ys)) :=
  h.putC e rfl ea (Tr.putD hH) ⟨ys,upd_same,isKV_mono (Sub.refl m) (Tr.putD hH) kvs' ys hd⟩
end
structure SlotOk (K : PySem.W.Frag) (m : List Addr) (H : Hp) (τ : Sl) (σ : L2.St) : Prop where
  len : τ.length = σ.length
  at_ : ∀ (i : Nat) (d : D),τ[i]? = some (some d)→∃ v,σ[i]? = some (some v)∧IsD K m H d v
theorem SlotOk.mono {K : PySem.W.Frag} {m m' : List Addr} {H H' : Hp} {τ : Sl} {σ : L2.St} (h : SlotOk K m H τ σ) (s : Sub m m') (t : Tr H H') : SlotOk K m' H' τ σ :=
  ⟨h.len,fun i d e=>let ⟨v,a,b⟩:=h.at_ i d e; ⟨v,a,isD_mono s t d v b⟩⟩
theorem SlotOk.put {K : PySem.W.Frag} {m : List Addr} {H : Hp} {τ : Sl} {σ : L2.St} (h : SlotOk K m H τ σ) {i : Nat} {d : D} {v : V} (q : IsD K m H d v) : SlotOk K m H (τ.set i (some d)) (σ.set i (some v)):=by
  refine ⟨by rw [List.length_set,List.length_set]; exact h.len,fun j e ej=>?_⟩
  by_cases hj : i = j
  · subst hj
    have hi : i < τ.length:=by
      have:=(List.getElem?_eq_some_iff.mp ej).1
      rwa [List.length_set] at this
    rw [List.getElem?_set_self hi] at ej
    cases ej
    exact ⟨v,List.getElem?_set_self (by rw [← h.len]; exact hi),q⟩
  · rw [List.getElem?_set_ne hj] at ej ⊢
    exact h.at_ j e ej
noncomputable def Post (K : PySem.W.Frag) (m : List Addr) (H : Hp) (d : D) (st' : Store) (Q : VK) : Prop:=∀ v m' H',Sub m m'→Tr H H'→Rel K m' st' H'→IsD K m' H' d v→Q v H'
noncomputable def PostB (K : PySem.W.Frag) (m : List Addr) (H : Hp) (b : Bool) (st' : Store) (Q : Bool→Hp→Prop) : Prop:=∀ m' H',Sub m m'→Tr H H'→Rel K m' st' H'→Q b H'
noncomputable def PostL (K : PySem.W.Frag) (m : List Addr) (H : Hp) (ds : List D) (st' : Store) (Q : List V→Hp→Prop) : Prop:=∀ vs m' H',Sub m m'→Tr H H'→Rel K m' st' H'→IsDs K m' H' ds vs→Q vs H'
theorem Post.mono {K : PySem.W.Frag} {m m1 : List Addr} {H H1 : Hp} {d : D} {st' : Store} {Q : VK} (p : Post K m H d st' Q) (s : Sub m m1) (t : Tr H H1) : Post K m1 H1 d st' Q :=
  fun v m' H' s' t' r i=>p v m' H' (s.trans s') (t.trans t') r i
theorem Post.here {K : PySem.W.Frag} {m : List Addr} {H : Hp} {d : D} {st' : Store} {Q : VK} {v : V} (p : Post K m H d st' Q) (r : Rel K m st' H) (i : IsD K m H d v) : Q v H:=p v m H (Sub.refl m) (Tr.refl H) r i
noncomputable def tD (K : PySem.W.Frag) (f : Sl→Store→Option (D × Store)) : TE:=fun σ H Q=>∃ m st τ d st',Rel K m st H∧SlotOk K m H τ σ∧f τ st = some (d,st')∧Post K m H d st' Q
noncomputable def tTs (K : PySem.W.Frag) (f : Sl→Store→Option (Bool × Store)) : TT:=fun σ H Q=>∃ m st τ d st',Rel K m st H∧SlotOk K m H τ σ∧f τ st = some (d,st')∧PostB K m H d st' Q
noncomputable def tL (K : PySem.W.Frag) (f : Sl→Store→Option (List D × Store)) : TA:=fun σ H Q=>∃ m st τ d st',Rel K m st H∧SlotOk K m H τ σ∧f τ st = some (d,st')∧PostL K m H d st' Q
noncomputable def rD (K : PySem.W.Frag) (g : Store→D→D→Option (D × Store)) : R2:=fun x y H Q=>∃ m st a b d st',Rel K m st H∧IsD K m H a x∧IsD K m H b y∧g st a b = some (d,st')∧Post K m H d st' Q
noncomputable def rC (K : PySem.W.Frag) (g : Store→List D→Option (D × Store)) : List V→Hp→VK→Prop:=fun xs H Q=>∃ m st ds d st',Rel K m st H∧IsDs K m H ds xs∧g st ds = some (d,st')∧Post K m H d st' Q
theorem _root_.L2.PE.imp {X : Cx} {e : Expr} {t t' : TE} (h : PE X e t) (f : ∀ σ H Q,t' σ H Q→t σ H Q) : PE X e t':=fun pins s σ H Q I q=>h pins s σ H Q I (f σ H Q q)
theorem _root_.L2.PT.imp {X : Cx} {e : Expr} {t t' : TT} (h : PT X e t) (f : ∀ σ H Q,t' σ H Q→t σ H Q) : PT X e t':=fun pins s σ H Q I q=>h pins s σ H Q I (f σ H Q q)
theorem _root_.L2.PW.imp {X : Cx} {e : Expr} {t t' : TT} (h : PW X e t) (f : ∀ σ H Q,t' σ H Q→t σ H Q) : PW X e t':=fun w pins s σ H Q I q=>h w pins s σ H Q I (f σ H Q q)
theorem _root_.L2.PA.imp {X : Cx} {e : List Expr} {t t' : TA} (h : PA X e t) (f : ∀ σ H Q,t' σ H Q→t σ H Q) : PA X e t':=fun p pins s σ H Q I q=>h p pins s σ H Q I (f σ H Q q)
theorem _root_.L2.PS.imp {X : Cx} {e : Stmt} {t t' : TS} (h : PS X e t) (f : ∀ σ H Q,t' σ H Q→t σ H Q) : PS X e t':=fun pins s σ H Q I q=>h pins s σ H Q I (f Q σ H q)
theorem _root_.L2.PSs.imp {X : Cx} {e : List Stmt} {t t' : TS} (h : PSs X e t) (f : ∀ D σ H,t' D σ H→t D σ H) : PSs X e t':=fun pins s σ H D I q=>h pins s σ H D I (f D σ H q)
theorem bindD {α : Type} {f : Option (D × Store)} {g : D × Store→Option α} {r : α} (e : f.bind g = some r) : ∃ d st,f = some (d,st)∧g (d,st) = some r:=by
  cases f with
  | none=>cases e
  | some p=>exact ⟨p.1,p.2,rfl,e⟩
theorem mapD {α β : Type} {f : Option α} {g : α→β} {r : β} (e : f.map g = some r) : ∃ d,f = some d∧g d = r:=by
  cases f with
  | none=>cases e
  | some p=>exact ⟨p,rfl,Option.some.inj e⟩
theorem bindO {α β : Type} {f : Option α} {g : α→Option β} {r : β} (e : f.bind g = some r) : ∃ d,f = some d∧g d = some r:=by
  cases f with
  | none=>cases e
  | some p=>exact ⟨p,rfl,e⟩
section
variable {K : PySem.W.Frag}
theorem tD_bin {fa fb : Sl→Store→Option (D × Store)} {g : Store→D→D→Option (D × Store)} {σ : L2.St} {H : Hp} {Q : VK}
    (h : tD K (fun τ st=>(fa τ st).bind fun p=>(fb τ p.2).bind fun q=>g q.2 p.1 q.1) σ H Q) : tOp (rD K g) (tD K fa) (tD K fb) σ H Q:=by
  obtain ⟨m,st,τ,d,st',R0,S0,e,q⟩:=h
  obtain ⟨d1,s1,e1,e⟩:=bindD e
  obtain ⟨d2,s2,e2,e⟩:=bindD e
  exact ⟨m,st,τ,d1,s1,R0,S0,e1,fun x m1 H1 b1 t1 R1 i1=>⟨m1,s1,τ,d2,s2,R1,S0.mono b1 t1,e2,fun y m2 H2 b2 t2 R2 i2 =>
    ⟨m2,s2,d1,d2,d,st',R2,isD_mono b2 t2 _ _ i1,i2,e,q.mono (b1.trans b2) (t1.trans t2)⟩⟩⟩
theorem tL_cons {fa : Sl→Store→Option (D × Store)} {fr : Sl→Store→Option (List D × Store)} {σ : L2.St} {H : Hp} {Q : List V→Hp→Prop}
    (h : tL K (fun τ st=>(fa τ st).bind fun p=>(fr τ p.2).bind fun q=>some (p.1::q.1,q.2)) σ H Q) : tCons (tD K fa) (tL K fr) σ H Q:=by
  obtain ⟨m,st,τ,d,st',R0,S0,e,q⟩:=h
  obtain ⟨d1,s1,e1,e⟩:=bindD e
  obtain ⟨p,e2,e⟩:=bindO e
  cases e
  exact ⟨m,st,τ,d1,s1,R0,S0,e1,fun x m1 H1 b1 t1 R1 i1=>⟨m1,s1,τ,p.1,p.2,R1,S0.mono b1 t1,e2,fun xs m2 H2 b2 t2 R2 i2 =>
    q _ m2 H2 (b1.trans b2) (t1.trans t2) R2 (mkCons (isD_mono b2 t2 _ _ i1) i2)⟩⟩
theorem tL_nil {σ : L2.St} {H : Hp} {Q : List V→Hp→Prop} (h : tL K (fun _ st=>some ([],st)) σ H Q) : tNil σ H Q:=by
  obtain ⟨m,st,τ,d,st',R0,S0,e,q⟩:=h
  cases e
  exact q [] m H (Sub.refl m) (Tr.refl H) R0 mkNil
theorem tL_call {fa : Sl→Store→Option (List D × Store)} {g : Store→List D→Option (D × Store)} {σ : L2.St} {H : Hp} {Q : VK}
    (h : tD K (fun τ st=>(fa τ st).bind fun p=>g p.2 p.1) σ H Q) : tCB (rC K g) (tL K fa) σ H Q:=by
  obtain ⟨m,st,τ,d,st',R0,S0,e,q⟩:=h
  obtain ⟨p,e1,e⟩:=bindO e
  exact ⟨m,st,τ,p.1,p.2,R0,S0,e1,fun xs m1 H1 b1 t1 R1 i1=>⟨m1,p.2,p.1,d,st',R1,i1,e,q.mono b1 t1⟩⟩
end
end MS
end
section
set_option linter.all false
set_option Elab.async false
set_option maxRecDepth 100000
set_option maxHeartbeats 4000000
namespace MS
open PySem PySem.Spec PyProof.Rows L2
open M (D Cell Store Sl)
section
variable {X : Cx}
theorem lim_eq : (sizeLine : Nat) = M.lim:=sizeLine_eq
theorem op_fdiv64 : OpR X (binaryOp .FloorDiv) (rI (fun _ j=>0 < j∧j < 2 ^ 64) fun i j=>.int (i / j)):=opI fun i j _ _ _ _ _ hc q=>by
  have h1 : (0 : Int) < j:=hc.1
  have h2 : j < 2 ^ 64:=hc.2
  refine floordiv_int (by omega) (by rw [Int.fdiv_eq_ediv_of_nonneg i (by omega)]; exact q) (.inl (PyProof.noPylong_of_log2 ?_))
  have h3 : j.natAbs < 2 ^ 64:=by omega
  have h4 : j.natAbs ≠ 0:=by omega
  have h5 : j.natAbs.log2 < 64:=(Nat.log2_lt h4).mpr h3
  omega
theorem _root_.MS.IsDs.rep {K : PySem.W.Frag} {m : List Addr} {H : Hp} {ds : List D} {xs : List V} (h : IsDs K m H ds xs) : ∀ k : Nat,IsDs K m H (List.replicate k ds).flatten (List.replicate k xs).flatten
  | 0=>by simp only [List.replicate_zero,List.flatten_nil]; exact mkNil
  | k + 1=>by
    rw [List.replicate_succ,List.replicate_succ,List.flatten_cons,List.flatten_cons]
    exact h.append (IsDs.rep h k)
theorem op_catS {pins : List (Addr × Obj)} {s : Shared} {σ : L2.St} {H : Hp} {Q : VK} {l b : Addr} {xs ys : List V} (I : Inv X pins σ H s) (hq : SqL X.K H l xs) (hq' : SqL X.K H b ys) (hz : xs.length + ys.length ≤ sizeLine) (q : ∀ p,H p = none→Q (.ref p) (upd H p (.lst (xs++ys)))) :
    wpAny (model X.prog X.w) X.A (binaryOp .Add (.ref l) (.ref b)) (EP X pins σ Q) X.xe s:=by
  obtain ⟨vs,r1,pl,_⟩:=I.list hq
  obtain ⟨ws,r2,pl2,_⟩:=I.list hq'
  have l1:=r1.length
  have l2:=r2.length
  obtain ⟨⟨cls,dd,data,sl⟩,n,ho,hc,hdd,hd⟩:=pl
  obtain ⟨⟨cls2,dd2,data2,sl2⟩,n2,ho2,hc2,hdd2,hd2⟩:=pl2
  simp only at hc hd hc2 hd2
  subst hc hd hc2 hd2
  have e : vs.toArray++ws.toArray = (vs++ws).toArray:=by simp
  refine concat_meets ⟨_,ho,rfl⟩ ⟨_,ho2,rfl⟩ noFill_list_add seq_list_add PySem.F.slot_list_add PySem.F.entry_list_add (PySem.F.args_list_add_2 _ _) (list_addW l b vs.toArray ws.toArray n n2 dd dd2 sl sl2 (by simp; omega)) ⟨ho,ho2,?_⟩
  rw [e]
  exact ⟨.ref _,_,I.lnew (t':=s.toks) (r1.append r2) (by rw [List.length_append]; omega),rfl,q _ I.fresh⟩
theorem op_binD (op : Operator) : OpR X (binaryOp op) (rD X.K fun st a b=>M.binop st op a b):=by
  intro pins s σ H x y v u Q I rx ry h
  obtain ⟨m,st,a,b,d,st',R0,i1,i2,e,q⟩:=h
  have e : M.binop st op a b = some (d,st'):=e
  unfold M.binop at e
  split at e
  · cases e
    exact op_add pins s σ H x y v u Q I rx ry ⟨_,_,i1.int,i2.int,q.here R0 (mkInt _)⟩
  · rename_i as bs
    split at e
    · cases e
    · rename_i hc
      cases e
      rw [Bool.or_eq_true,decide_eq_true_eq,not_or,List.isEmpty_iff] at hc
      obtain ⟨pa,xs,rfl,hx,ix⟩:=i1.tup
      obtain ⟨pb,ys,rfl,hy,iy⟩:=i2.tup
      have l1:=ix.length
      have l2:=iy.length
      have l3:=lim_eq
      refine op_catT pins s σ H _ _ v u Q I rx ry ⟨pa,pb,xs,ys,rfl,rfl,hx,hy,?_,by omega,fun z=>?_,fun z p hp=>?_⟩
      · intro z
        subst z
        exact hc.1 (List.length_eq_zero_iff.mp l1)
      · have i3:=ix.append iy
        rw [z,List.append_nil] at i3
        exact q.here R0 (mkTup hx i3)
      · have sm:=same_new (o:=.tup (xs++ys)) hp
        exact q _ m _ (Sub.refl m) (Tr.of_same sm) (R0.same sm) (mkTup (SqT.of upd_same) (isDs_mono (Sub.refl m) (Tr.of_same sm) _ _ (ix.append iy)))
  · split at e
    · cases e
    · rename_i hc
      cases e
      have l3:=lim_eq
      exact op_add_str pins s σ H x y v u Q I rx ry ⟨_,_,i1.str,i2.str,by omega,q.here R0 (mkStr _)⟩
  · rename_i la lb _ _ _
    obtain ⟨ds1,e1,e⟩:=bindO e
    obtain ⟨ds2,e2,e⟩:=bindO e
    split at e
    · cases e
    · rename_i hc
      cases e
      obtain ⟨pa,xs,_,rfl,hx,ix⟩:=R0.seq e1 i1
      obtain ⟨pb,ys,_,rfl,hy,iy⟩:=R0.seq e2 i2
      have l1:=ix.length
      have l2:=iy.length
      have l3:=lim_eq
      cases rx
      cases ry
      refine op_catS I hx hy (by omega) fun p hp=>?_
      exact q _ (m++[p]) _ (Sub.app m [p]) (Tr.of_same (same_new hp)) (R0.new hp (ix.append iy)) R0.newLoc
  · cases e
    exact op_sub pins s σ H x y v u Q I rx ry ⟨_,_,i1.int,i2.int,q.here R0 (mkInt _)⟩
  · split at e
    · rename_i hc
      cases e
      refine op_mul pins s σ H x y v u Q I rx ry ⟨_,_,i1.int,i2.int,?_,q.here R0 (mkInt _)⟩
      unfold M.mulOk at hc
      simp only [Bool.or_eq_true,Bool.and_eq_true,decide_eq_true_eq] at hc
      exact hc
    · cases e
  · rename_i as k _
    split at e
    · cases e
    · rename_i hc
      cases e
      simp only [Bool.or_eq_true,decide_eq_true_eq,not_or] at hc
      obtain ⟨pa,xs,rfl,hx,ix⟩:=i1.tup
      have l1:=ix.length
      have l3:=lim_eq
      refine op_repT pins s σ H _ _ v u Q I rx ry ⟨pa,k,xs,rfl,i2.int,hx,by omega,by omega,by rw [← l1]; omega,fun ys hy=>⟨fun z=>?_,fun p hp=>?_⟩⟩
      · have i3:=ix.rep k.toNat
        rw [← hy,z] at i3
        exact q.here R0 (mkTup hx i3)
      · have sm:=same_new (o:=.tup ys) hp
        have i3:=ix.rep k.toNat
        rw [← hy] at i3
        exact q _ m _ (Sub.refl m) (Tr.of_same sm) (R0.same sm) (mkTup (SqT.of upd_same) (isDs_mono (Sub.refl m) (Tr.of_same sm) _ _ i3))
  · rename_i la k _
    obtain ⟨ds1,e1,e⟩:=bindO e
    split at e
    · cases e
    · rename_i hc
      cases e
      simp only [Bool.or_eq_true,decide_eq_true_eq,not_or] at hc
      obtain ⟨pa,xs,m1,rfl,hx,ix,_⟩:=R0.wlist e1 i1
      have l1:=ix.length
      have l3:=lim_eq
      refine op_rep pins s σ H _ _ v u Q I rx ry ⟨pa,k,xs,rfl,i2.int,hx,by omega,by omega,by rw [← l1]; omega,fun p hp=>?_⟩
      exact q _ (m++[p]) _ (Sub.app m [p]) (Tr.of_same (same_new hp)) (R0.new hp (ix.rep k.toNat)) R0.newLoc
  · split at e
    · rename_i hc
      cases e
      exact op_fdiv64 pins s σ H x y v u Q I rx ry ⟨_,_,i1.int,i2.int,hc,q.here R0 (mkInt _)⟩
    · cases e
  · split at e
    · rename_i hc
      cases e
      exact op_mod pins s σ H x y v u Q I rx ry ⟨_,_,i1.int,i2.int,hc,q.here R0 (mkInt _)⟩
    · cases e
  · split at e
    · rename_i hc
      cases e
      exact op_pow pins s σ H x y v u Q I rx ry ⟨_,_,i1.int,i2.int,⟨hc.1,by omega,hc.2.2⟩,q.here R0 (mkInt _)⟩
    · cases e
  · cases e
theorem isD_tuple {pins : List (Addr × Obj)} {σ : L2.St} {H : Hp} {s : Shared} {m : List Addr} {ds : List D} {v : V} (I : Inv X pins σ H s) (h : IsD X.K m H (.tup ds) v) : ∃ a xs its,v = .ref a∧SqT X.K H a xs∧IsDs X.K m H ds xs∧Vals xs its∧IsTup s.heap a its.toArray:=by
  obtain ⟨a,xs,rfl,hx,ix⟩:=h.tup
  obtain ⟨its,r,p,_⟩:=I.tuple hx
  exact ⟨a,xs,its,rfl,hx,ix,r,p⟩
section
variable {pins : List (Addr × Obj)} {σ : L2.St} {H : Hp} {s : Shared} {m : List Addr}
mutual
theorem isD_inj (I : Inv X pins σ H s) : ∀ (n : Nat) (d e : D) (v : V),M.flat n d = true→M.flat n e = true→IsD X.K m H d v→IsD X.K m H e v→d = e
  | n,.loc _,_,_,f,_,_,_=>by simp [M.flat] at f
  | n,.lst _,_,_,f,_,_,_=>by simp [M.flat] at f
  | n,.non,e,v,_,fe,h,h'=>by
    rw [h.non] at h'
    cases e with
    | non=>rfl
    | tup ds=>obtain ⟨a,xs,z,_⟩:=h'.tup; cases z
    | loc l=>simp [M.flat] at fe
    | lst _=>simp [M.flat] at fe
    | bl b=>cases h'.bl
    | int b=>cases h'.int
    | str b=>cases h'.str
  | n,.bl b,e,v,_,fe,h,h'=>by
    rw [h.bl] at h'
    cases e with
    | non=>cases h'.non
    | tup ds=>obtain ⟨a,xs,z,_⟩:=h'.tup; cases z
    | loc l=>simp [M.flat] at fe
    | lst _=>simp [M.flat] at fe
    | bl b=>cases h'.bl; rfl
    | int b=>cases h'.int
    | str b=>cases h'.str
  | n,.int b,e,v,_,fe,h,h'=>by
    rw [h.int] at h'
    cases e with
    | non=>cases h'.non
    | tup ds=>obtain ⟨a,xs,z,_⟩:=h'.tup; cases z
    | loc l=>simp [M.flat] at fe
    | lst _=>simp [M.flat] at fe
    | bl b=>cases h'.bl
    | int b=>cases h'.int; rfl
    | str b=>cases h'.str
  | n,.str b,e,v,_,fe,h,h'=>by
    rw [h.str] at h'
    cases e with
    | non=>cases h'.non
    | tup ds=>obtain ⟨a,xs,z,_⟩:=h'.tup; cases z
    | loc l=>simp [M.flat] at fe
    | lst _=>simp [M.flat] at fe
    | bl b=>cases h'.bl
    | int b=>cases h'.int
    | str b=>cases h'.str; rfl
  | 0,.tup ds,e,v,f,fe,h,h'=>by simp [M.flat] at f
  | n + 1,.tup ds,e,v,f,fe,h,h'=>by
    obtain ⟨a,xs,rfl,hx,ix⟩:=h.tup
    cases e with
    | non=>cases h'.non
    | tup es =>
      obtain ⟨b,ys,z,hy,iy⟩:=h'.tup
      cases z
      have:=I.tuple_inj hx hy
      subst this
      simp only [M.flat] at f fe
      rw [isDs_inj I n ds es xs f fe ix iy]
    | loc l=>simp [M.flat] at fe
    | lst _=>simp [M.flat] at fe
    | bl b=>cases h'.bl
    | int b=>cases h'.int
    | str b=>cases h'.str
theorem isDs_inj (I : Inv X pins σ H s) : ∀ (n : Nat) (ds es : List D) (xs : List V),M.flats n ds = true→M.flats n es = true→IsDs X.K m H ds xs→IsDs X.K m H es xs→ds = es
  | n,[],es,xs,_,_,h,h'=>by
    rw [h.nil] at h'
    exact (List.length_eq_zero_iff.mp h'.length).symm
  | n,d::ds,es,xs,f,fe,h,h'=>by
    obtain ⟨x,r,rfl,q,t⟩:=h.cons
    cases es with
    | nil=>cases h'.nil
    | cons e es =>
      obtain ⟨x',r',z,q',t'⟩:=h'.cons
      cases z
      simp only [M.flats,Bool.and_eq_true] at f fe
      rw [isD_inj I n d e x f.1 fe.1 q q',isDs_inj I n ds es r f.2 fe.2 t t']
end
mutual
theorem eqT_refl : ∀ (n : Nat) (d : D),M.flat n d = true→M.eqT d d = true
  | n,.loc _,f=>by simp [M.flat] at f
  | n,.lst _,f=>by simp [M.flat] at f
  | n,.non,_=>rfl
  | n,.bl b,_=>by simp [M.eqT]
  | n,.int b,_=>by simp [M.eqT]
  | n,.str b,_=>by simp [M.eqT]
  | 0,.tup ds,f=>by simp [M.flat] at f
  | n + 1,.tup ds,f=>by
    simp only [M.flat] at f
    simp only [M.eqT]
    exact eqTs_refl n ds f
theorem eqTs_refl : ∀ (n : Nat) (ds : List D),M.flats n ds = true→M.eqTs ds ds = true
  | n,[],_=>rfl
  | n,d::ds,f=>by
    simp only [M.flats,Bool.and_eq_true] at f
    simp only [M.eqTs,eqT_refl n d f.1,eqTs_refl n ds f.2,Bool.and_self]
end
noncomputable def pairE (ds es : List D) (j : Nat) : Bool:=match ds[j]?,es[j]? with
  | some d,some e=>M.eqT d e
  | _,_=>true
theorem eqTs_pair : ∀ (ds es : List D),M.eqTs ds es = ((List.range (min ds.length es.length)).all (pairE ds es) && ds.length == es.length)
  | [],[]=>rfl
  | [],e::es=>by simp [M.eqTs]
  | d::ds,[]=>by simp [M.eqTs]
  | d::ds,e::es=>by
    simp only [M.eqTs]
    rw [eqTs_pair ds es,List.length_cons,List.length_cons,Nat.add_min_add_right,List.range_succ_eq_map,List.all_cons,List.all_map,Bool.and_assoc]
    congr 1
    congr 1
    rw [Bool.eq_iff_iff,beq_iff_eq,beq_iff_eq]
    omega
theorem eqTs_same {ds es : List D} (h : ds.length = es.length) : M.eqTs ds es = (List.range ds.length).all (pairE ds es):=by
  rw [eqTs_pair,h,Nat.min_self]
  simp
theorem eqAt_D (I : Inv X pins σ H s) : ∀ (n : Nat) (A : Around) (d e : D) (x y : V) (u v : Value),A.units + n < cLine→M.flat n d = true→M.flat n e = true→IsD X.K m H d x→IsD X.K m H e y→RelV x u→RelV y v →
    SeqAt.EqAt A s u v (M.eqT d e)∧SeqAt.RcAt A s u v (M.eqT d e):=by
  intro n
  induction n with
  | zero =>
    intro A d e x y u v hu f fe hx hy rx ry
    have hu0 : A.units < cLine:=by omega
    cases d with
    | loc _=>simp [M.flat] at f
    | lst _=>simp [M.flat] at f
    | tup _=>simp [M.flat] at f
    | non =>
      cases hx.non; cases rx
      cases e with
      | loc _=>simp [M.flat] at fe
      | lst _=>simp [M.flat] at fe
      | tup _=>simp [M.flat] at fe
      | non=>cases hy.non; cases ry; exact ⟨SeqAt.EqAt.same _,SeqAt.RcAt.none_none⟩
      | bl b=>cases hy.bl; cases ry; exact ⟨SeqAt.EqAt.none_bool b,SeqAt.RcAt.none_bool b⟩
      | int b=>cases hy.int; obtain ⟨t,rfl⟩:=ry; exact ⟨SeqAt.EqAt.none_int b t,SeqAt.RcAt.none_int b t⟩
      | str b=>cases hy.str; obtain ⟨t,rfl⟩:=ry; exact ⟨SeqAt.EqAt.none_str b t,SeqAt.RcAt.none_str b t⟩
    | bl a =>
      cases hx.bl; cases rx
      cases e with
      | loc _=>simp [M.flat] at fe
      | lst _=>simp [M.flat] at fe
      | tup _=>simp [M.flat] at fe
      | non=>cases hy.non; cases ry; exact ⟨SeqAt.EqAt.bool_none a,SeqAt.RcAt.bool_none a⟩
      | bl b=>cases hy.bl; cases ry; exact ⟨SeqAt.EqAt.bool_bool a b,SeqAt.RcAt.bool_bool a b⟩
      | int b=>cases hy.int; obtain ⟨t,rfl⟩:=ry; exact ⟨SeqAt.EqAt.bool_int a b t,SeqAt.RcAt.bool_int a b t⟩
      | str b=>cases hy.str; obtain ⟨t,rfl⟩:=ry; exact ⟨SeqAt.EqAt.bool_str a b t,SeqAt.RcAt.bool_str a b t⟩
    | int a =>
      cases hx.int; obtain ⟨t',rfl⟩:=rx
      cases e with
      | loc _=>simp [M.flat] at fe
      | lst _=>simp [M.flat] at fe
      | tup _=>simp [M.flat] at fe
      | non=>cases hy.non; cases ry; exact ⟨SeqAt.EqAt.int_none a t',SeqAt.RcAt.int_none a t'⟩
      | bl b=>cases hy.bl; cases ry; exact ⟨SeqAt.EqAt.int_bool a t' b,SeqAt.RcAt.int_bool a t' b⟩
      | int b=>cases hy.int; obtain ⟨t,rfl⟩:=ry; exact ⟨SeqAt.EqAt.int_int a t' b t,SeqAt.RcAt.int_int a t' b t⟩
      | str b=>cases hy.str; obtain ⟨t,rfl⟩:=ry; exact ⟨SeqAt.EqAt.int_str a t' b t,SeqAt.RcAt.int_str a t' b t⟩
    | str a =>
      cases hx.str; obtain ⟨t',rfl⟩:=rx
      cases e with
      | loc _=>simp [M.flat] at fe
      | lst _=>simp [M.flat] at fe
      | tup _=>simp [M.flat] at fe
      | non=>cases hy.non; cases ry; exact ⟨SeqAt.EqAt.str_none a t',SeqAt.RcAt.str_none a t'⟩
      | bl b=>cases hy.bl; cases ry; exact ⟨SeqAt.EqAt.str_bool a t' b,SeqAt.RcAt.str_bool a t' b⟩
      | int b=>cases hy.int; obtain ⟨t,rfl⟩:=ry; exact ⟨SeqAt.EqAt.str_int a t' b t,SeqAt.RcAt.str_int a t' b t⟩
      | str b=>cases hy.str; obtain ⟨t,rfl⟩:=ry; exact ⟨SeqAt.EqAt.str_str a t' b t,SeqAt.RcAt.str_str a t' b t⟩
  | succ n ih =>
    intro A d e x y u v hu f fe hx hy rx ry
    have hu0 : A.units < cLine:=by omega
    cases d with
    | loc _=>simp [M.flat] at f
    | lst _=>simp [M.flat] at f
    | tup ds =>
      obtain ⟨a,xs,its,rfl,hq,ix,r1,p1⟩:=isD_tuple I hx
      cases rx
      cases e with
      | loc _=>simp [M.flat] at fe
      | lst _=>simp [M.flat] at fe
      | non=>cases hy.non; cases ry; exact ⟨SeqAt.EqAt.tuple_none p1 hu0,SeqAt.RcAt.tuple_none p1 hu0⟩
      | bl b=>cases hy.bl; cases ry; exact ⟨SeqAt.EqAt.tuple_bool b p1 hu0,SeqAt.RcAt.tuple_bool b p1 hu0⟩
      | int b=>cases hy.int; obtain ⟨t,rfl⟩:=ry; exact ⟨SeqAt.EqAt.tuple_int b t p1 hu0,SeqAt.RcAt.tuple_int b t p1 hu0⟩
      | str b=>cases hy.str; obtain ⟨t,rfl⟩:=ry; exact ⟨SeqAt.EqAt.tuple_str b t p1 hu0,SeqAt.RcAt.tuple_str b t p1 hu0⟩
      | tup es =>
        obtain ⟨b,ys,its2,rfl,hq2,iy,r2,p2⟩:=isD_tuple I hy
        cases ry
        have l1:=ix.length
        have l2:=iy.length
        have l3:=r1.length
        have l4:=r2.length
        simp only [M.flat] at f fe
        have he : ∀ j (h1 : j < its.toArray.size) (h2 : j < its2.toArray.size),SeqAt.EqAt A.in1 s its.toArray[j] its2.toArray[j] (pairE ds es j):=by
          intro j h1 h2
          rw [List.size_toArray] at h1 h2
          have j1 : j < ds.length:=by omega
          have j2 : j < es.length:=by omega
          have g1 : ds[j]? = some ds[j]:=by simp
          have g2 : es[j]? = some es[j]:=by simp
          obtain ⟨x1,k1,q1⟩:=ix.get g1
          obtain ⟨x2,k2,q2⟩:=iy.get g2
          obtain ⟨u1,w1,z1⟩:=r1.get k1
          obtain ⟨u2,w2,z2⟩:=r2.get k2
          have fl : ∀ (l : List D) (k : Nat) (hk : k < l.length),M.flats n l = true→M.flat n l[k] = true:=by
            intro l
            induction l with
            | nil=>intro k hk; cases hk
            | cons c l ihl =>
              intro k hk hf
              simp only [M.flats,Bool.and_eq_true] at hf
              cases k with
              | zero=>exact hf.1
              | succ k=>exact ihl k (by simpa using hk) hf.2
          have:=(ih A.in1 ds[j] es[j] x1 x2 u1 u2 (by have hz : A.in1.units = A.units + 1:=rfl; omega) (fl ds j j1 f) (fl es j j2 fe) q1 q2 z1 z2).1
          have e1 : its.toArray[j] = u1:=by
            have : its[j]? = some its[j]:=by simp
            rw [w1] at this
            simpa using (Option.some.inj this).symm
          have e2 : its2.toArray[j] = u2:=by
            have : its2[j]? = some its2[j]:=by simp
            rw [w2] at this
            simpa using (Option.some.inj this).symm
          rw [e1,e2]
          have e3 : pairE ds es j = M.eqT ds[j] es[j]:=by
            unfold pairE
            rw [g1,g2]
          rw [e3]
          exact this
        have rc : SeqAt.RcAt A s (.ref a) (.ref b) (M.eqT (.tup ds) (.tup es)):=by
          have:=SeqAt.RcAt.tuples p1 p2 hu0 he
          simp only [M.eqT]
          rw [eqTs_pair,l1,l2,l3,l4]
          simpa using this
        refine ⟨?_,rc⟩
        by_cases hab : a = b
        · subst hab
          have:=I.tuple_inj hq hq2
          subst this
          have e0:=isDs_inj I n ds es xs f fe ix iy
          subst e0
          have e1 : M.eqT (.tup ds) (.tup ds) = true:=by
            simp only [M.eqT]
            exact eqTs_refl n ds f
          rw [e1]
          exact SeqAt.EqAt.same _
        · exact SeqAt.EqAt.of_refs hab rc
    | non =>
      cases hx.non; cases rx
      cases e with
      | loc _=>simp [M.flat] at fe
      | lst _=>simp [M.flat] at fe
      | tup es =>
        obtain ⟨b,ys,its2,rfl,hq2,iy,r2,p2⟩:=isD_tuple I hy
        cases ry
        exact ⟨SeqAt.EqAt.none_tuple p2 hu0,SeqAt.RcAt.none_tuple p2 hu0⟩
      | non=>cases hy.non; cases ry; exact ⟨SeqAt.EqAt.same _,SeqAt.RcAt.none_none⟩
      | bl b=>cases hy.bl; cases ry; exact ⟨SeqAt.EqAt.none_bool b,SeqAt.RcAt.none_bool b⟩
      | int b=>cases hy.int; obtain ⟨t,rfl⟩:=ry; exact ⟨SeqAt.EqAt.none_int b t,SeqAt.RcAt.none_int b t⟩
      | str b=>cases hy.str; obtain ⟨t,rfl⟩:=ry; exact ⟨SeqAt.EqAt.none_str b t,SeqAt.RcAt.none_str b t⟩
    | bl a =>
      cases hx.bl; cases rx
      cases e with
      | loc _=>simp [M.flat] at fe
      | lst _=>simp [M.flat] at fe
      | tup es =>
        obtain ⟨b,ys,its2,rfl,hq2,iy,r2,p2⟩:=isD_tuple I hy
        cases ry
        exact ⟨SeqAt.EqAt.bool_tuple a p2 hu0,SeqAt.RcAt.bool_tuple a p2 hu0⟩
      | non=>cases hy.non; cases ry; exact ⟨SeqAt.EqAt.bool_none a,SeqAt.RcAt.bool_none a⟩
      | bl b=>cases hy.bl; cases ry; exact ⟨SeqAt.EqAt.bool_bool a b,SeqAt.RcAt.bool_bool a b⟩
      | int b=>cases hy.int; obtain ⟨t,rfl⟩:=ry; exact ⟨SeqAt.EqAt.bool_int a b t,SeqAt.RcAt.bool_int a b t⟩
      | str b=>cases hy.str; obtain ⟨t,rfl⟩:=ry; exact ⟨SeqAt.EqAt.bool_str a b t,SeqAt.RcAt.bool_str a b t⟩
    | int a =>
      cases hx.int; obtain ⟨t',rfl⟩:=rx
      cases e with
      | loc _=>simp [M.flat] at fe
      | lst _=>simp [M.flat] at fe
      | tup es =>
        obtain ⟨b,ys,its2,rfl,hq2,iy,r2,p2⟩:=isD_tuple I hy
        cases ry
        exact ⟨SeqAt.EqAt.int_tuple a t' p2 hu0,SeqAt.RcAt.int_tuple a t' p2 hu0⟩
      | non=>cases hy.non; cases ry; exact ⟨SeqAt.EqAt.int_none a t',SeqAt.RcAt.int_none a t'⟩
      | bl b=>cases hy.bl; cases ry; exact ⟨SeqAt.EqAt.int_bool a t' b,SeqAt.RcAt.int_bool a t' b⟩
      | int b=>cases hy.int; obtain ⟨t,rfl⟩:=ry; exact ⟨SeqAt.EqAt.int_int a t' b t,SeqAt.RcAt.int_int a t' b t⟩
      | str b=>cases hy.str; obtain ⟨t,rfl⟩:=ry; exact ⟨SeqAt.EqAt.int_str a t' b t,SeqAt.RcAt.int_str a t' b t⟩
    | str a =>
      cases hx.str; obtain ⟨t',rfl⟩:=rx
      cases e with
      | loc _=>simp [M.flat] at fe
      | lst _=>simp [M.flat] at fe
      | tup es =>
        obtain ⟨b,ys,its2,rfl,hq2,iy,r2,p2⟩:=isD_tuple I hy
        cases ry
        exact ⟨SeqAt.EqAt.str_tuple a t' p2 hu0,SeqAt.RcAt.str_tuple a t' p2 hu0⟩
      | non=>cases hy.non; cases ry; exact ⟨SeqAt.EqAt.str_none a t',SeqAt.RcAt.str_none a t'⟩
      | bl b=>cases hy.bl; cases ry; exact ⟨SeqAt.EqAt.str_bool a t' b,SeqAt.RcAt.str_bool a t' b⟩
      | int b=>cases hy.int; obtain ⟨t,rfl⟩:=ry; exact ⟨SeqAt.EqAt.str_int a t' b t,SeqAt.RcAt.str_int a t' b t⟩
      | str b=>cases hy.str; obtain ⟨t,rfl⟩:=ry; exact ⟨SeqAt.EqAt.str_str a t' b t,SeqAt.RcAt.str_str a t' b t⟩
theorem flats_get : ∀ {n : Nat} {l : List D} {k : Nat} {d : D},M.flats n l = true→l[k]? = some d→M.flat n d = true
  | _,[],_,_,_,e=>by simp at e
  | n,c::l,0,d,f,e=>by
    simp only [M.flats,Bool.and_eq_true] at f
    have e' : c = d:=by simpa using e
    rw [← e']; exact f.1
  | n,c::l,k + 1,d,f,e=>by
    simp only [M.flats,Bool.and_eq_true] at f
    exact flats_get (k:=k) f.2 (by simpa using e)
end
end
end MS
end
section
set_option linter.all false
set_option Elab.async false
set_option maxRecDepth 100000
set_option maxHeartbeats 4000000
namespace MS
open PySem PySem.Spec PyProof.Rows L2
noncomputable def Its (z : Str) : It:=⟨fun i _=>i < z.cps.toList.length,fun i H x H'=>H' = H∧∃ c,z.cps.toList[i]? = some c∧x = .str ⟨#[c]⟩,fun i _=>z.cps.toList.length ≤ i⟩
theorem turn_text {P : Program} {w : World} {K : PySem.W.Frag} {tg : Expr} (z : Str) (t : Tok) (it : Addr) : Turn P w K tg (Its z) [it] it (fun i h=>h.IsStrIter it "str_ascii_iterator" z t i) where
  mem:=by simp
  obj:=fun i h st b hb=>by
    have e : b = it:=by simpa using hb
    subst e
    obtain ⟨o,e,c,d⟩:=st
    exact ⟨o,e,fun v q=>by rw [d] at q; cases q⟩
  keep:=fun i h h' st k=>by
    obtain ⟨o,e,r⟩:=st
    exact ⟨o,k it (by simp) o e,r⟩
  item:=by
    intro X hP hw hK hc i pins s σ H E I hf st hg
    subst hP hw hK
    obtain ⟨f0,f1,f2,f3,f4,f5⟩:=hf it (by simp)
    have hi : i < z.cps.toList.length:=hg
    have hx : z.cps[i]? = some (z.cps.toList[i]):=by
      rw [← Array.getElem?_toList]
      exact List.getElem?_eq_getElem hi
    refine wpAny_pyNext_ascii_item st hx fun h' st' sb=>?_
    have I1 : Inv X pins σ H { s with heap:=h',toks:=s.toks + 1 }:=I.turned (fun b o hb e=>(sb.2 b hb).trans e) f0 f1 f3 f4 f5
    obtain ⟨o,e,c,d⟩:=id st'
    exact ⟨_,rfl,go_of (s:={ s with heap:=h',toks:=s.toks + 1 }) e c d (by decide) ⟨.str ⟨#[z.cps.toList[i]]⟩,H,I1,⟨_,rfl⟩,⟨rfl,_,List.getElem?_eq_getElem hi,rfl⟩,st',fun b hb=>(hf b hb).1⟩⟩
  done:=by
    intro X hP hw hK hc i pins s σ H E I hf st hg
    subst hP hw hK
    obtain ⟨f0,f1,f2,f3,f4,f5⟩:=hf it (by simp)
    have hi : z.cps.toList.length ≤ i:=hg
    have hx : z.cps[i]? = none:=by
      rw [← Array.getElem?_toList]
      exact List.getElem?_eq_none hi
    exact wpAny_pyNext_ascii_end (I.ok.hd hc) st hx fun h' eb=>⟨rfl,I.turned (t':=s.toks) (fun b o hb e=>eb b o hb e) f0 f1 f3 f4 f5⟩
  self:=fun _ _ _ _ _ st h=>wpAny_pyIter_striter_ascii st h
section
variable {X : Cx}
theorem part_int {v : Value} {o : Option Int} (h : IsPart v o) : ∃ p : Option (Int × Tok),v = partValue p∧p.map (·.1) = o:=by
  cases h with
  | none=>exact ⟨none,rfl,rfl⟩
  | int i t=>exact ⟨some (i,t),rfl,rfl⟩
theorem idx_range (n : Nat) (lo hi : Option Int) : Builtin.Str.strSliceIndices lo hi 1 n = PySem.sliceRange ((M.cutIx n 0 lo : Nat) : Int) ((M.cutIx n n hi : Nat) : Int) 1:=by
  have cl : ∀ (o : Option Int) (d : Nat),d ≤ n→(match o with
      | none=>(d : Int)
      | some i=>max 0 (min (if i < 0 then i + (n : Int) else i) (n : Int))) = ((M.cutIx n d o : Nat) : Int):=by
    intro o d hd
    cases o with
    | none=>rfl
    | some i =>
      simp only [M.cutIx]
      split <;> omega
  rw [← cl lo 0 (Nat.zero_le _),← cl hi n (Nat.le_refl _)]
  unfold Builtin.Str.strSliceIndices
  simp only [show ((1 : Int) > 0) = True from by simp,if_true]
  congr 2
theorem cutIx_le (n d : Nat) (o : Option Int) (h : d ≤ n) : M.cutIx n d o ≤ n:=by
  cases o with
  | none=>exact h
  | some i =>
    simp only [M.cutIx]
    split <;> omega
theorem range_one (a b : Nat) : PySem.sliceRange (a : Int) (b : Int) 1 = (List.range (b - a)).map fun k=>a + k:=by
  unfold PySem.sliceRange
  simp only [show ((1 : Int) > 0) = True from by simp,if_true]
  by_cases h : (a : Int) < (b : Int)
  · rw [if_pos h]
    have e : (((b : Int) - a + 1 - 1) / 1).toNat = b - a:=by
      rw [Int.ediv_one]; omega
    rw [e]
    refine List.map_congr_left fun k _=>?_
    omega
  · rw [if_neg h]
    have e : b - a = 0:=by omega
    rw [e]
    rfl
theorem cut_text (z : Str) (lo hi : Option Int) : (Builtin.Str.strSliceIndices lo hi 1 z.length).filterMap (z.cps[·]?) = M.cut z.cps.toList lo hi:=by
  have hl : z.cps.toList.length = z.length:=by simp [Str.length]
  have h1:=cutIx_le z.length 0 lo (Nat.zero_le _)
  have h2:=cutIx_le z.length z.length hi (Nat.le_refl _)
  rw [idx_range,range_one]
  unfold M.cut
  rw [hl]
  generalize M.cutIx z.length 0 lo = a at *
  generalize M.cutIx z.length z.length hi = b at *
  have e : ∀ l : List Nat,l.filterMap (z.cps[·]?) = l.filterMap (z.cps.toList[·]?):=fun l=>by simp
  rw [e]
  by_cases hab : a ≤ b
  · exact PySem.StrLaws.picks z.cps.toList (b - a) a (by omega)
  · have e0 : b - a = 0:=by omega
    rw [e0]
    simp
theorem cut_whole (z : Str) (lo hi : Option Int) (h : (Builtin.Str.strSliceIndices lo hi 1 z.length).length = z.length) : M.cut z.cps.toList lo hi = z.cps.toList:=by
  have hl : z.cps.toList.length = z.length:=by simp [Str.length]
  have h1:=cutIx_le z.length 0 lo (Nat.zero_le _)
  have h2:=cutIx_le z.length z.length hi (Nat.le_refl _)
  rw [idx_range,range_one,List.length_map,List.length_range] at h
  unfold M.cut
  rw [hl]
  generalize M.cutIx z.length 0 lo = a at *
  generalize M.cutIx z.length z.length hi = b at *
  by_cases h0 : z.length = 0
  · have e : z.cps.toList = []:=List.length_eq_zero_iff.mp (hl.trans h0)
    rw [e]; simp
  · have ea : a = 0:=by omega
    subst ea
    rw [List.drop_zero]
    exact List.take_of_length_le (by omega)
theorem sl_text : SlR X (fun x lo hi H Q=>∃ z,x = .str z∧z.length ≤ sizeLine∧Q (.str ⟨(M.cut z.cps.toList lo hi).toArray⟩) H):=by
  intro pins s σ H x v vl vu lo hi sl Q I rx hs pl pu h
  obtain ⟨z,rfl,hz,q⟩:=h
  obtain ⟨t,rfl⟩:=rx
  obtain ⟨l,rfl,el⟩:=part_int pl
  obtain ⟨u,rfl,eu⟩:=part_int pu
  have hsl : s.heap.IsSlice sl l u none:=hs
  refine ⟨"str",_,PySem.F.slot_str_getitem.lookup,typeIs_str s z t,?_⟩
  have el : l.map (·.1) = lo:=el
  have eu : u.map (·.1) = hi:=eu
  have hpick : slicePicked z l u none = Builtin.Str.strSliceIndices lo hi 1 z.length:=by unfold slicePicked; rw [el,eu]; rfl
  have hcut:=cut_text z lo hi
  have hl : z.cps.toList.length = z.length:=by simp [Str.length]
  have clen : (M.cut z.cps.toList lo hi).length ≤ z.length:=by
    unfold M.cut
    rw [List.length_take,List.length_drop,hl]
    omega
  refine wpAny_getItem_str_slice hsl (by decide) ?_
  unfold sliceMade
  rw [hpick,hcut]
  refine post_val_or_str ⟨?_,fun t' k=>?_⟩
  · split
    · exact hz
    · show (M.cut z.cps.toList lo hi).toArray.size ≤ sizeLine
      rw [List.size_toArray]
      exact Nat.le_trans clen hz
  · refine ⟨.str ⟨(M.cut z.cps.toList lo hi).toArray⟩,H,I.tok k,⟨t',?_⟩,q⟩
    split
    · rename_i hw
      rw [Bool.and_eq_true,beq_iff_eq,beq_iff_eq] at hw
      have hw2 : (Builtin.Str.strSliceIndices lo hi 1 z.length).length = z.length:=hw.2
      have e : M.cut z.cps.toList lo hi = z.cps.toList:=cut_whole z lo hi hw2
      rw [e]
    · rfl
theorem oneOf_eq {z : Str} {c : Nat} (h : M.oneOf z = some c) : z = ⟨#[c]⟩:=by
  obtain ⟨cs⟩:=z
  unfold M.oneOf at h
  split at h
  · rename_i d hd
    cases h
    have : cs = #[c]:=by
      apply Array.toList_inj.mp
      simpa using hd
    rw [this]
  · cases h
end
end MS
end
section
set_option linter.all false
set_option Elab.async false
set_option maxRecDepth 100000
set_option maxHeartbeats 4000000
namespace MS
open PySem PySem.Spec PyProof.Rows L2
open M (D Cell Store Sl)
section
variable {X : Cx}
section
variable {pins : List (Addr × Obj)} {σ : L2.St} {H : Hp} {s : Shared} {m : List Addr}
theorem ans_of (I : Inv X pins σ H s) (A : Around) (hu : A.units + 9 < cLine) {d0 : D} {x0 : V} {u0 : Value} (f0 : M.flat 9 d0 = true) (h0 : IsD X.K m H d0 x0) (r0 : RelV x0 u0) :
    ∃ e : Value→Bool,∀ (ds : List D) (xs : List V) (its : List Value),M.flats 9 ds = true→IsDs X.K m H ds xs→Vals xs its→(∀ w ∈ its,SeqAt.EqAt A s w u0 (e w))∧its.any e = ds.any fun y=>M.eqT y d0:=by
  classical
  refine ⟨fun w=>decide (∃ d x,M.flat 9 d = true∧IsD X.K m H d x∧RelV x w∧M.eqT d d0 = true),fun ds=>?_⟩
  have key : ∀ d x w,M.flat 9 d = true→IsD X.K m H d x→RelV x w→decide (∃ d x,M.flat 9 d = true∧IsD X.K m H d x∧RelV x w∧M.eqT d d0 = true) = M.eqT d d0:=by
    intro d x w f i r
    cases q : M.eqT d d0 with
    | true=>exact decide_eq_true ⟨d,x,f,i,r,q⟩
    | false =>
      refine decide_eq_false ?_
      rintro ⟨d',x',f',i',r',q'⟩
      have e1:=r.inj r'
      subst e1
      have e2:=isD_inj I 9 d d' x f f' i i'
      subst e2
      rw [q] at q'
      cases q'
  induction ds with
  | nil =>
    intro xs its _ ix r
    rw [ix.nil] at r
    cases r
    exact ⟨fun w hw=>(by cases hw),rfl⟩
  | cons d ds ih =>
    intro xs its f ix r
    obtain ⟨x,xr,rfl,q,t⟩:=ix.cons
    simp only [M.flats,Bool.and_eq_true] at f
    cases r with
    | @cons _ u _ us r1 r2 =>
      obtain ⟨a1,a2⟩:=ih xr us f.2 t r2
      refine ⟨fun w hw=>?_,?_⟩
      · rcases List.mem_cons.mp hw with z | z
        · subst z
          show SeqAt.EqAt A s w u0 (decide _)
          rw [key d x w f.1 q r1]
          exact (eqAt_D I 9 A d d0 x x0 w u0 hu f.1 f0 q h0 r1 r0).1
        · exact a1 w z
      · rw [List.any_cons,List.any_cons,a2]
        congr 1
        exact key d x u f.1 q r1
end
theorem items_eq {pins : List (Addr × Obj)} {σ : L2.St} {H : Hp} {s : Shared} {m : List Addr} (I : Inv X pins σ H s) (A : Around) (n : Nat) (hu : A.units + n < cLine) {ds es : List D} {xs ys : List V} {its its2 : List Value} (f : M.flats n ds = true) (fe : M.flats n es = true) (ix : IsDs X.K m H ds xs) (iy : IsDs X.K m H es ys) (r1 : Vals xs its) (r2 : Vals ys its2)
    (j : Nat) (h1 : j < its.toArray.size) (h2 : j < its2.toArray.size) : SeqAt.EqAt A s its.toArray[j] its2.toArray[j] (pairE ds es j):=by
  have l1:=ix.length
  have l2:=iy.length
  have l3:=r1.length
  have l4:=r2.length
  rw [List.size_toArray] at h1 h2
  have j1 : j < ds.length:=by omega
  have j2 : j < es.length:=by omega
  have g1 : ds[j]? = some ds[j]:=by simp
  have g2 : es[j]? = some es[j]:=by simp
  obtain ⟨x1,k1,q1⟩:=ix.get g1
  obtain ⟨x2,k2,q2⟩:=iy.get g2
  obtain ⟨u1,w1,z1⟩:=r1.get k1
  obtain ⟨u2,w2,z2⟩:=r2.get k2
  have this:=(eqAt_D I n A ds[j] es[j] x1 x2 u1 u2 hu (flats_get f g1) (flats_get fe g2) q1 q2 z1 z2).1
  have e1 : its.toArray[j] = u1:=by
    have : its[j]? = some its[j]:=by simp
    rw [w1] at this
    simpa using (Option.some.inj this).symm
  have e2 : its2.toArray[j] = u2:=by
    have : its2[j]? = some its2[j]:=by simp
    rw [w2] at this
    simpa using (Option.some.inj this).symm
  rw [e1,e2]
  have e3 : pairE ds es j = M.eqT ds[j] es[j]:=by
    unfold pairE
    rw [g1,g2]
  rw [e3]
  exact this
theorem op_inD (hu : X.A.units + 64 < cLine) : OpR X (compareOp .In) (rD X.K fun st a b=>(M.inD st a b).map fun k=>(.bl k,st)):=by
  intro pins s σ H x y v u Q I rx ry h
  obtain ⟨m,st,a,b,d,st',R0,i1,i2,e,q⟩:=h
  obtain ⟨k,e1,e2⟩:=mapD e
  cases e2
  have hu1 : X.A.in1.units + 9 < cLine:=by have hz : X.A.in1.units = X.A.units + 1:=rfl; omega
  cases b with
  | tup ds =>
    simp only [M.inD] at e1
    split at e1
    · rename_i hf
      cases e1
      rw [Bool.and_eq_true] at hf
      obtain ⟨p,xs,its,rfl,hq,ix,r,pl⟩:=isD_tuple I i2
      cases ry
      obtain ⟨ef,ha⟩:=ans_of I X.A.in1 hu1 hf.1 i1 rx
      obtain ⟨h1,h2⟩:=ha ds xs its hf.2 ix r
      refine SeqAt.in_tupleAt ef pl (fun w hw=>h1 w (by simpa using hw)) ⟨.bl _,H,I,rfl,?_⟩
      rw [show its.toArray.any ef = its.any ef by simp,h2]
      exact q.here R0 (mkBl _)
    · cases e1
  | loc l =>
    simp only [M.inD] at e1
    obtain ⟨ds,e2,e1⟩:=bindO e1
    split at e1
    · rename_i hf
      cases e1
      rw [Bool.and_eq_true] at hf
      obtain ⟨p,xs,_,rfl,hq,ix⟩:=R0.seq e2 i2
      cases ry
      obtain ⟨its,r,pl,_⟩:=I.list hq
      obtain ⟨ef,ha⟩:=ans_of I X.A.in1 hu1 hf.1 i1 rx
      obtain ⟨h1,h2⟩:=ha ds xs its hf.2 ix r
      refine SeqAt.in_listAt ef pl.isList (fun w hw=>h1 w (by simpa using hw)) ⟨.bl _,H,I,rfl,?_⟩
      rw [show its.toArray.any ef = its.any ef by simp,h2]
      exact q.here R0 (mkBl _)
    · cases e1
  | lst l =>
    simp only [M.inD] at e1
    obtain ⟨ds,e2,e1⟩:=bindO e1
    split at e1
    · rename_i hf
      cases e1
      rw [Bool.and_eq_true] at hf
      obtain ⟨p,xs,_,rfl,hq,ix⟩:=R0.seq e2 i2
      cases ry
      obtain ⟨its,r,pl,_⟩:=I.list hq
      obtain ⟨ef,ha⟩:=ans_of I X.A.in1 hu1 hf.1 i1 rx
      obtain ⟨h1,h2⟩:=ha ds xs its hf.2 ix r
      refine SeqAt.in_listAt ef pl.isList (fun w hw=>h1 w (by simpa using hw)) ⟨.bl _,H,I,rfl,?_⟩
      rw [show its.toArray.any ef = its.any ef by simp,h2]
      exact q.here R0 (mkBl _)
    · cases e1
  | str z =>
    simp only [M.inD] at e1
    cases a with
    | str y0 =>
      obtain ⟨c,e3,e4⟩:=mapD e1
      have hy:=oneOf_eq e3
      subst hy
      subst e4
      refine op_in_str pins s σ H x y v u Q I rx ry ⟨_,_,i1.str,i2.str,?_⟩
      rw [PySem.StrLaws.found_one]
      exact q.here R0 (mkBl _)
    | _=>cases e1
  | _=>simp [M.inD,M.seqAt] at e1
theorem op_notInD (hu : X.A.units + 64 < cLine) : OpR X (compareOp .NotIn) (rD X.K fun st a b=>((M.inD st a b).map (!·)).map fun k=>(.bl k,st)):=by
  intro pins s σ H x y v u Q I rx ry h
  obtain ⟨m,st,a,b,d,st',R0,i1,i2,e,q⟩:=h
  obtain ⟨k0,e0,e2⟩:=mapD e
  cases e2
  obtain ⟨k,e1,e3⟩:=mapD e0
  subst e3
  have hu1 : X.A.in1.units + 9 < cLine:=by have hz : X.A.in1.units = X.A.units + 1:=rfl; omega
  cases b with
  | tup ds =>
    simp only [M.inD] at e1
    split at e1
    · rename_i hf
      cases e1
      rw [Bool.and_eq_true] at hf
      obtain ⟨p,xs,its,rfl,hq,ix,r,pl⟩:=isD_tuple I i2
      cases ry
      obtain ⟨ef,ha⟩:=ans_of I X.A.in1 hu1 hf.1 i1 rx
      obtain ⟨h1,h2⟩:=ha ds xs its hf.2 ix r
      refine SeqAt.notIn_tupleAt ef pl (fun w hw=>h1 w (by simpa using hw)) ⟨.bl _,H,I,rfl,?_⟩
      rw [show its.toArray.any ef = its.any ef by simp,h2]
      exact q.here R0 (mkBl _)
    · cases e1
  | loc l =>
    simp only [M.inD] at e1
    obtain ⟨ds,e2,e1⟩:=bindO e1
    split at e1
    · rename_i hf
      cases e1
      rw [Bool.and_eq_true] at hf
      obtain ⟨p,xs,_,rfl,hq,ix⟩:=R0.seq e2 i2
      cases ry
      obtain ⟨its,r,pl,_⟩:=I.list hq
      obtain ⟨ef,ha⟩:=ans_of I X.A.in1 hu1 hf.1 i1 rx
      obtain ⟨h1,h2⟩:=ha ds xs its hf.2 ix r
      refine SeqAt.notIn_listAt ef pl.isList (fun w hw=>h1 w (by simpa using hw)) ⟨.bl _,H,I,rfl,?_⟩
      rw [show its.toArray.any ef = its.any ef by simp,h2]
      exact q.here R0 (mkBl _)
    · cases e1
  | lst l =>
    simp only [M.inD] at e1
    obtain ⟨ds,e2,e1⟩:=bindO e1
    split at e1
    · rename_i hf
      cases e1
      rw [Bool.and_eq_true] at hf
      obtain ⟨p,xs,_,rfl,hq,ix⟩:=R0.seq e2 i2
      cases ry
      obtain ⟨its,r,pl,_⟩:=I.list hq
      obtain ⟨ef,ha⟩:=ans_of I X.A.in1 hu1 hf.1 i1 rx
      obtain ⟨h1,h2⟩:=ha ds xs its hf.2 ix r
      refine SeqAt.notIn_listAt ef pl.isList (fun w hw=>h1 w (by simpa using hw)) ⟨.bl _,H,I,rfl,?_⟩
      rw [show its.toArray.any ef = its.any ef by simp,h2]
      exact q.here R0 (mkBl _)
    · cases e1
  | str z =>
    simp only [M.inD] at e1
    cases a with
    | str y0 =>
      obtain ⟨c,e3,e4⟩:=mapD e1
      have hy:=oneOf_eq e3
      subst hy
      subst e4
      refine op_notin_str pins s σ H x y v u Q I rx ry ⟨_,_,i1.str,i2.str,?_⟩
      rw [PySem.StrLaws.found_one]
      exact q.here R0 (mkBl _)
    | _=>cases e1
  | _=>simp [M.inD,M.seqAt] at e1
theorem op_eqD (hu : X.A.units + 64 < cLine) : OpR X (compareOp .Eq) (rD X.K fun st a b=>(M.eqD st a b).map fun k=>(.bl k,st)):=by
  intro pins s σ H x y v u Q I rx ry h
  obtain ⟨m,st,a,b,d,st',R0,i1,i2,e,q⟩:=h
  obtain ⟨k,e1,e2⟩:=mapD e
  cases e2
  have e1 : M.eqD st a b = some k:=e1
  unfold M.eqD at e1
  split at e1
  · rename_i ds es g1 g2
    split at e1
    · rename_i hf
      cases e1
      rw [Bool.and_eq_true] at hf
      obtain ⟨p,xs,_,rfl,hq,ix⟩:=R0.seq g1 i1
      obtain ⟨p',ys,_,rfl,hq',iy⟩:=R0.seq g2 i2
      cases rx
      cases ry
      obtain ⟨its,r1,pl,_⟩:=I.list hq
      obtain ⟨its2,r2,pl2,_⟩:=I.list hq'
      have l1:=ix.length
      have l2:=iy.length
      have l3:=r1.length
      have l4:=r2.length
      by_cases hsz : its.toArray.size = its2.toArray.size
      · refine SeqAt.RcAt.lists (e:=pairE ds es) pl.isList pl2.isList hsz (by omega) (fun j h1 h2=>?_) _ _ _ _ ⟨.bl _,H,I,rfl,?_⟩
        · rw [List.size_toArray] at h1 h2
          have j1 : j < ds.length:=by omega
          have j2 : j < es.length:=by omega
          have g1 : ds[j]? = some ds[j]:=by simp
          have g2 : es[j]? = some es[j]:=by simp
          obtain ⟨x1,k1,q1⟩:=ix.get g1
          obtain ⟨x2,k2,q2⟩:=iy.get g2
          obtain ⟨u1,w1,z1⟩:=r1.get k1
          obtain ⟨u2,w2,z2⟩:=r2.get k2
          have this:=(eqAt_D I 9 X.A.in1 ds[j] es[j] x1 x2 u1 u2 (by have hz : X.A.in1.units = X.A.units + 1:=rfl; omega) (flats_get hf.1 g1) (flats_get hf.2 g2) q1 q2 z1 z2).1
          have e1 : its.toArray[j] = u1:=by
            have : its[j]? = some its[j]:=by simp
            rw [w1] at this
            simpa using (Option.some.inj this).symm
          have e2 : its2.toArray[j] = u2:=by
            have : its2[j]? = some its2[j]:=by simp
            rw [w2] at this
            simpa using (Option.some.inj this).symm
          rw [e1,e2]
          have e3 : pairE ds es j = M.eqT ds[j] es[j]:=by
            unfold pairE
            rw [g1,g2]
          rw [e3]
          exact this
        · rw [List.size_toArray,List.size_toArray] at hsz
          have e5 : (List.range its.toArray.size).all (pairE ds es) = M.eqTs ds es:=by
            rw [eqTs_same (by omega),List.size_toArray,← l3,← l1]
          rw [e5]
          exact q.here R0 (mkBl _)
      · rw [List.size_toArray,List.size_toArray] at hsz
        have e5 : M.eqTs ds es = false:=by
          rw [eqTs_pair]
          have : (ds.length == es.length) = false:=by simp; omega
          rw [this,Bool.and_false]
        rw [e5] at q
        refine SeqAt.RcAt.lists_lengths pl.isList pl2.isList (by simpa using hsz) (by omega) _ _ _ _ ⟨.bl _,H,I,rfl,q.here R0 (mkBl _)⟩
    · cases e1
  · split at e1
    · rename_i hf
      cases e1
      rw [Bool.and_eq_true] at hf
      exact (eqAt_D I 9 X.A a b x y v u (by omega) hf.1 hf.2 i1 i2 rx ry).2 _ _ _ _ ⟨.bl _,H,I,rfl,q.here R0 (mkBl _)⟩
    · cases e1
theorem neAt_D {pins : List (Addr × Obj)} {σ : L2.St} {H : Hp} {s : Shared} {m : List Addr} (I : Inv X pins σ H s) (A : Around) (d e : D) (x y : V) (u v : Value) (hu : A.units + 10 < cLine) (f : M.flat 9 d = true) (fe : M.flat 9 e = true) (hx : IsD X.K m H d x) (hy : IsD X.K m H e y) (rx : RelV x u) (ry : RelV y v) :
    SeqAt.RcNeAt A s u v (!M.eqT d e):=by
  have hu0 : A.units < cLine:=by omega
  cases d with
  | loc _=>simp [M.flat] at f
  | lst _=>simp [M.flat] at f
  | non =>
    cases hx.non; cases rx
    cases e with
    | loc _=>simp [M.flat] at fe
    | lst _=>simp [M.flat] at fe
    | tup es=>obtain ⟨b,ys,its2,rfl,hq2,iy,r2,p2⟩:=isD_tuple I hy; cases ry; exact SeqAt.RcNeAt.none_tuple p2 hu0
    | non=>cases hy.non; cases ry; exact SeqAt.RcNeAt.none_none
    | bl b=>cases hy.bl; cases ry; exact SeqAt.RcNeAt.none_bool b
    | int b=>cases hy.int; obtain ⟨t,rfl⟩:=ry; exact SeqAt.RcNeAt.none_int b t
    | str b=>cases hy.str; obtain ⟨t,rfl⟩:=ry; exact SeqAt.RcNeAt.none_str b t
  | bl a =>
    cases hx.bl; cases rx
    cases e with
    | loc _=>simp [M.flat] at fe
    | lst _=>simp [M.flat] at fe
    | tup es=>obtain ⟨b,ys,its2,rfl,hq2,iy,r2,p2⟩:=isD_tuple I hy; cases ry; exact SeqAt.RcNeAt.bool_tuple a p2 hu0
    | non=>cases hy.non; cases ry; exact SeqAt.RcNeAt.bool_none a
    | bl b=>cases hy.bl; cases ry; exact SeqAt.RcNeAt.bool_bool a b
    | int b=>cases hy.int; obtain ⟨t,rfl⟩:=ry; exact SeqAt.RcNeAt.bool_int a b t
    | str b=>cases hy.str; obtain ⟨t,rfl⟩:=ry; exact SeqAt.RcNeAt.bool_str a b t
  | int a =>
    cases hx.int; obtain ⟨t',rfl⟩:=rx
    cases e with
    | loc _=>simp [M.flat] at fe
    | lst _=>simp [M.flat] at fe
    | tup es=>obtain ⟨b,ys,its2,rfl,hq2,iy,r2,p2⟩:=isD_tuple I hy; cases ry; exact SeqAt.RcNeAt.int_tuple a t' p2 hu0
    | non=>cases hy.non; cases ry; exact SeqAt.RcNeAt.int_none a t'
    | bl b=>cases hy.bl; cases ry; exact SeqAt.RcNeAt.int_bool a t' b
    | int b=>cases hy.int; obtain ⟨t,rfl⟩:=ry; exact SeqAt.RcNeAt.int_int a t' b t
    | str b=>cases hy.str; obtain ⟨t,rfl⟩:=ry; exact SeqAt.RcNeAt.int_str a t' b t
  | str a =>
    cases hx.str; obtain ⟨t',rfl⟩:=rx
    cases e with
    | loc _=>simp [M.flat] at fe
    | lst _=>simp [M.flat] at fe
    | tup es=>obtain ⟨b,ys,its2,rfl,hq2,iy,r2,p2⟩:=isD_tuple I hy; cases ry; exact SeqAt.RcNeAt.str_tuple a t' p2 hu0
    | non=>cases hy.non; cases ry; exact SeqAt.RcNeAt.str_none a t'
    | bl b=>cases hy.bl; cases ry; exact SeqAt.RcNeAt.str_bool a t' b
    | int b=>cases hy.int; obtain ⟨t,rfl⟩:=ry; exact SeqAt.RcNeAt.str_int a t' b t
    | str b=>cases hy.str; obtain ⟨t,rfl⟩:=ry; exact SeqAt.RcNeAt.str_str a t' b t
  | tup ds =>
    obtain ⟨a,xs,its,rfl,hq,ix,r1,p1⟩:=isD_tuple I hx
    cases rx
    cases e with
    | loc _=>simp [M.flat] at fe
    | lst _=>simp [M.flat] at fe
    | non=>cases hy.non; cases ry; exact SeqAt.RcNeAt.tuple_none p1 hu0
    | bl b=>cases hy.bl; cases ry; exact SeqAt.RcNeAt.tuple_bool b p1 hu0
    | int b=>cases hy.int; obtain ⟨t,rfl⟩:=ry; exact SeqAt.RcNeAt.tuple_int b t p1 hu0
    | str b=>cases hy.str; obtain ⟨t,rfl⟩:=ry; exact SeqAt.RcNeAt.tuple_str b t p1 hu0
    | tup es =>
      obtain ⟨b,ys,its2,rfl,hq2,iy,r2,p2⟩:=isD_tuple I hy
      cases ry
      have l1:=ix.length
      have l2:=iy.length
      have l3:=r1.length
      have l4:=r2.length
      simp only [M.flat] at f fe
      have he : ∀ j (h1 : j < its.toArray.size) (h2 : j < its2.toArray.size),SeqAt.EqAt A.in1 s its.toArray[j] its2.toArray[j] (pairE ds es j):=fun j h1 h2=>items_eq I A.in1 8 (by have hz : A.in1.units = A.units + 1:=rfl; omega) f fe ix iy r1 r2 j h1 h2
      have:=SeqAt.RcNeAt.tuples p1 p2 hu0 he
      simp only [M.eqT]
      rw [eqTs_pair,l1,l2,l3,l4]
      simpa using this
theorem op_neD (hu : X.A.units + 64 < cLine) : OpR X (compareOp .NotEq) (rD X.K fun st a b=>(M.neD st a b).map fun k=>(.bl k,st)):=by
  intro pins s σ H x y v u Q I rx ry h
  obtain ⟨m,st,a,b,d,st',R0,i1,i2,e,q⟩:=h
  obtain ⟨k0,e0,e2⟩:=mapD e
  cases e2
  obtain ⟨k,e1,e3⟩:=mapD e0
  subst e3
  have e1 : M.eqD st a b = some k:=e1
  unfold M.eqD at e1
  split at e1
  · rename_i ds es g1 g2
    split at e1
    · rename_i hf
      cases e1
      rw [Bool.and_eq_true] at hf
      obtain ⟨p,xs,_,rfl,hq,ix⟩:=R0.seq g1 i1
      obtain ⟨p',ys,_,rfl,hq',iy⟩:=R0.seq g2 i2
      cases rx
      cases ry
      obtain ⟨its,r1,pl,_⟩:=I.list hq
      obtain ⟨its2,r2,pl2,_⟩:=I.list hq'
      have l1:=ix.length
      have l2:=iy.length
      have l3:=r1.length
      have l4:=r2.length
      by_cases hsz : its.toArray.size = its2.toArray.size
      · refine SeqAt.RcNeAt.lists (e:=pairE ds es) pl.isList pl2.isList hsz (by omega) (fun j h1 h2=>items_eq I X.A.in1 9 (by have hz : X.A.in1.units = X.A.units + 1:=rfl; omega) hf.1 hf.2 ix iy r1 r2 j h1 h2) _ _ _ _ ⟨.bl _,H,I,rfl,?_⟩
        rw [List.size_toArray,List.size_toArray] at hsz
        have e5 : (List.range its.toArray.size).all (pairE ds es) = M.eqTs ds es:=by
          rw [eqTs_same (by omega),List.size_toArray,← l3,← l1]
        rw [e5]
        exact q.here R0 (mkBl _)
      · rw [List.size_toArray,List.size_toArray] at hsz
        have e5 : M.eqTs ds es = false:=by
          rw [eqTs_pair]
          have : (ds.length == es.length) = false:=by simp; omega
          rw [this,Bool.and_false]
        rw [e5] at q
        refine SeqAt.RcNeAt.lists_lengths pl.isList pl2.isList (by simpa using hsz) (by omega) _ _ _ _ ⟨.bl _,H,I,rfl,q.here R0 (mkBl _)⟩
    · cases e1
  · split at e1
    · rename_i hf
      cases e1
      rw [Bool.and_eq_true] at hf
      exact neAt_D I X.A a b x y v u (by omega) hf.1 hf.2 i1 i2 rx ry _ _ _ _ ⟨.bl _,H,I,rfl,q.here R0 (mkBl _)⟩
    · cases e1
theorem isNon_of {K : PySem.W.Frag} {m : List Addr} {H : Hp} {d : D} {x : V} (h : IsD K m H d x) : decide (x = .non) = M.isNon d:=by
  cases d with
  | non=>rw [h.non]; rfl
  | bl b=>rw [h.bl]; rfl
  | int b=>rw [h.int]; rfl
  | str b=>rw [h.str]; rfl
  | tup ds=>obtain ⟨a,xs,rfl,_⟩:=h.tup; rfl
  | loc l=>obtain ⟨a,_,rfl⟩:=h.loc; rfl
  | lst l=>obtain ⟨a,xs,rfl,_⟩:=h.lst; rfl
theorem op_cmpD (hu : X.A.units + 64 < cLine) (op : CmpOp) : OpR X (compareOp op) (rD X.K fun st a b=>(M.cmpD st op a b).map fun k=>(.bl k,st)):=by
  intro pins s σ H x y v u Q I rx ry h
  obtain ⟨m,st,a,b,d,st',R0,i1,i2,e,q⟩:=h
  obtain ⟨k,e1,e2⟩:=mapD e
  cases e2
  have e1 : M.cmpD st op a b = some k:=e1
  unfold M.cmpD at e1
  split at e1
  · cases e1
    exact op_lt pins s σ H x y v u Q I rx ry ⟨_,_,i1.int,i2.int,q.here R0 (mkBl _)⟩
  · cases e1
    exact op_le pins s σ H x y v u Q I rx ry ⟨_,_,i1.int,i2.int,q.here R0 (mkBl _)⟩
  · cases e1
    exact op_gt pins s σ H x y v u Q I rx ry ⟨_,_,i1.int,i2.int,q.here R0 (mkBl _)⟩
  · cases e1
    exact op_ge pins s σ H x y v u Q I rx ry ⟨_,_,i1.int,i2.int,q.here R0 (mkBl _)⟩
  · exact op_eqD hu pins s σ H x y v u Q I rx ry ⟨m,st,a,b,_,_,R0,i1,i2,by dsimp only; rw [e1]; rfl,q⟩
  · exact op_neD hu pins s σ H x y v u Q I rx ry ⟨m,st,a,b,_,_,R0,i1,i2,by dsimp only; rw [e1]; rfl,q⟩
  · cases e1
    refine op_isN pins s σ H x y v u Q I rx ry ⟨i2.non,?_⟩
    rw [isNon_of i1]
    exact q.here R0 (mkBl _)
  · cases e1
    refine op_notN pins s σ H x y v u Q I rx ry ⟨i2.non,?_⟩
    rw [isNon_of i1]
    exact q.here R0 (mkBl _)
  · exact op_inD hu pins s σ H x y v u Q I rx ry ⟨m,st,a,b,_,_,R0,i1,i2,by dsimp only; rw [e1]; rfl,q⟩
  · exact op_notInD hu pins s σ H x y v u Q I rx ry ⟨m,st,a,b,_,_,R0,i1,i2,by dsimp only; rw [e1]; rfl,q⟩
  · cases e1
theorem truV_of {K : PySem.W.Frag} {m : List Addr} {st : Store} {H : Hp} {d : D} {x : V} {k : Bool} (R0 : Rel K m st H) (h : IsD K m H d x) (e : M.truth st d = some k) : TruV K x H k:=by
  cases d with
  | non=>rw [h.non]; simp only [M.truth] at e; exact (Option.some.inj e).symm
  | bl b=>rw [h.bl]; simp only [M.truth] at e; exact (Option.some.inj e).symm
  | int b=>rw [h.int]; simp only [M.truth] at e; exact (Option.some.inj e).symm
  | str b =>
    rw [h.str]
    simp only [M.truth] at e
    split at e
    · cases e
    · have l3:=lim_eq
      exact ⟨by omega,(Option.some.inj e).symm⟩
  | tup ds =>
    obtain ⟨a,xs,rfl,hq,ix⟩:=h.tup
    simp only [M.truth] at e
    refine .inr (.inl ⟨xs,hq,?_⟩)
    have:=ix.length
    cases e
    cases ds <;> cases xs <;> simp_all
  | loc l =>
    simp only [M.truth] at e
    obtain ⟨ds,e1,e2⟩:=mapD e
    obtain ⟨a,xs,_,rfl,hq,ix⟩:=R0.seq e1 h
    refine .inl ⟨xs,hq,?_⟩
    have:=ix.length
    subst e2
    cases ds <;> cases xs <;> simp_all
  | lst l =>
    simp only [M.truth] at e
    obtain ⟨ds,e1,e2⟩:=mapD e
    obtain ⟨a,xs,_,rfl,hq,ix⟩:=R0.seq e1 h
    refine .inl ⟨xs,hq,?_⟩
    have:=ix.length
    subst e2
    cases ds <;> cases xs <;> simp_all
theorem atI_of {K : PySem.W.Frag} {m : List Addr} {H : Hp} {ds : List D} {xs : List V} {i : Int} {d : D} (ix : IsDs K m H ds xs) (e : M.atI ds i = some d) : ∃ x,L2.atI xs i = some x∧IsD K m H d x:=by
  unfold M.atI at e
  obtain ⟨j,e1,e2⟩:=bindO e
  obtain ⟨x,e3,q⟩:=ix.get e2
  refine ⟨x,?_,q⟩
  unfold L2.atI
  have e4 : L2.ixN xs.length i = some j:=by rw [← ix.length]; exact e1
  rw [e4]
  exact e3
theorem ix_D : IxR X (rD X.K fun st a b=>(M.idxD st a b).map fun d=>(d,st)):=by
  intro value slice pins s σ H x y v u Q I rx ry h hs
  obtain ⟨m,st,a,b,d,st',R0,i1,i2,e,q⟩:=h
  obtain ⟨k,e1,e2⟩:=mapD e
  cases e2
  have e1 : M.idxD st a b = some d:=e1
  unfold M.idxD at e1
  split at e1
  · obtain ⟨p,xs,rfl,hq,ix⟩:=i1.tup
    obtain ⟨w,e3,iw⟩:=atI_of ix e1
    exact ix_tup value slice pins s σ H _ _ v u Q I rx ry ⟨p,xs,_,w,rfl,i2.int,hq,e3,q.here R0 iw⟩ hs
  · split at e1
    · cases e1
    · obtain ⟨c,e3,e4⟩:=mapD e1
      subst e4
      have l3:=lim_eq
      exact ix_str value slice pins s σ H _ _ v u Q I rx ry ⟨_,_,c,i1.str,i2.int,by omega,e3,q.here R0 (mkStr _)⟩ hs
  · obtain ⟨ds,e2,e1⟩:=bindO e1
    obtain ⟨p,xs,_,rfl,hq,ix⟩:=R0.seq e2 i1
    obtain ⟨w,e3,iw⟩:=atI_of ix e1
    exact ix_list value slice pins s σ H _ _ v u Q I rx ry ⟨p,xs,_,w,rfl,i2.int,hq,e3,q.here R0 iw⟩ hs
  · cases e1
theorem mt_appendD : MtM X "list.append" (fun x xs H Q=>∃ m st a ds d st',Rel X.K m st H∧IsD X.K m H a x∧IsDs X.K m H ds xs∧M.mAppend st a ds = some (d,st')∧Post X.K m H d st' Q):=by
  intro pins s σ H x xs v us Q I rx rs h
  obtain ⟨m,st,a,ds,d,st',R0,i1,i2,e,q⟩:=h
  unfold M.mAppend at e
  split at e
  · obtain ⟨ds0,e1,e⟩:=bindO e
    split at e
    · rename_i hl
      cases e
      obtain ⟨p,ys,hm,rfl,hp,ix,hs⟩:=R0.wlist e1 i1
      obtain ⟨y,rfl,iy⟩:=i2.one
      have l1:=ix.length
      have l2:=lim_eq
      refine mt_append pins s σ H _ _ v us Q I rx rs ⟨p,ys,y,rfl,rfl,hp,by omega,?_⟩
      exact q _ m _ (Sub.refl m) (Tr.put hp) (R0.put hs hm hp (ix.append (mkCons iy mkNil))) mkNon
    · cases e
  · cases e
noncomputable def rSlD (K : PySem.W.Frag) : V→Option Int→Option Int→Hp→VK→Prop:=fun x lo hi H Q=>∃ m st a d st',Rel K m st H∧IsD K m H a x∧M.sliD st a lo hi = some (d,st')∧Post K m H d st' Q
theorem _root_.MS.IsDs.take {K : PySem.W.Frag} {m : List Addr} {H : Hp} : ∀ {ds : List D} {xs : List V} (n : Nat),IsDs K m H ds xs→IsDs K m H (ds.take n) (xs.take n)
  | _,_,0,_=>by simp only [List.take_zero]; exact mkNil
  | [],_,n + 1,h=>by rw [h.nil]; simp only [List.take_nil]; exact mkNil
  | d::ds,_,n + 1,h=>by
    obtain ⟨x,r,rfl,q,t⟩:=h.cons
    simp only [List.take_succ_cons]
    exact mkCons q (IsDs.take n t)
theorem _root_.MS.IsDs.drop {K : PySem.W.Frag} {m : List Addr} {H : Hp} : ∀ {ds : List D} {xs : List V} (n : Nat),IsDs K m H ds xs→IsDs K m H (ds.drop n) (xs.drop n)
  | _,_,0,h=>by simp only [List.drop_zero]; exact h
  | [],_,n + 1,h=>by rw [h.nil]; simp only [List.drop_nil]; exact mkNil
  | d::ds,_,n + 1,h=>by
    obtain ⟨x,r,rfl,q,t⟩:=h.cons
    simp only [List.drop_succ_cons]
    exact IsDs.drop n t
theorem cutIx_eq (n d : Nat) (o : Option Int) : M.cutIx n d o = HT.sIx n d o:=by
  cases o <;> rfl
theorem cut_of {K : PySem.W.Frag} {m : List Addr} {H : Hp} {ds : List D} {xs : List V} (h : IsDs K m H ds xs) (lo hi : Option Int) : IsDs K m H (M.cut ds lo hi) (cutV xs lo hi):=by
  unfold M.cut cutV
  rw [cutIx_eq,cutIx_eq,h.length]
  exact (h.drop _).take _
theorem sl_D : SlR X (rSlD X.K):=by
  intro pins s σ H x v vl vu lo hi sl Q I rx hs pl pu h
  obtain ⟨m,st,a,d,st',R0,i1,e,q⟩:=h
  unfold M.sliD at e
  split at e
  · cases e
    obtain ⟨p,xs,rfl,hx,ix⟩:=i1.tup
    have ic:=cut_of ix lo hi
    by_cases hw : HT.sIx xs.length 0 lo = 0∧HT.sIx xs.length xs.length hi = xs.length
    · cases rx
      obtain ⟨its,r,ht,hz⟩:=I.tuple hx
      refine ⟨"tuple",_,PyProof.Rows.slot_tuple_getitem.lookup,ht.typeIs,?_⟩
      have hlen : its.toArray.size = xs.length:=by rw [List.size_toArray]; exact r.length.symm
      refine getItem_tuple_whole ht hs pl pu (by rw [hlen]; exact hw) ?_
      refine ⟨.ref p,H,I,rfl,q.here R0 (mkTup hx ?_)⟩
      have e1 : cutV xs lo hi = xs:=by
        unfold cutV
        rw [hw.1,hw.2]
        simp
      rw [e1] at ic
      exact ic
    · refine sl_tup pins s σ H _ v vl vu lo hi sl Q I rx hs pl pu ⟨p,xs,rfl,hx,hw,fun p' hp=>?_⟩
      have sm:=same_new (o:=.tup (cutV xs lo hi)) hp
      exact q _ m _ (Sub.refl m) (Tr.of_same sm) (R0.same sm) (mkTup (SqT.of upd_same) (isDs_mono (Sub.refl m) (Tr.of_same sm) _ _ ic))
  · split at e
    · cases e
    · rename_i hz
      cases e
      have l2:=lim_eq
      exact sl_text pins s σ H _ v vl vu lo hi sl Q I rx hs pl pu ⟨_,i1.str,by omega,q.here R0 (mkStr _)⟩
  · obtain ⟨ds,e1,e2⟩:=mapD e
    cases e2
    obtain ⟨p,xs,_,rfl,hq,ix⟩:=R0.seq e1 i1
    refine sl_list pins s σ H _ v vl vu lo hi sl Q I rx hs pl pu ⟨p,xs,rfl,hq,fun l hl=>?_⟩
    exact q _ (m++[l]) _ (Sub.app m [l]) (Tr.of_same (same_new hl)) (R0.new hl (cut_of ix lo hi)) R0.newLoc
theorem call_lenD : CallR X (.builtin "len") (rC X.K M.bLen):=by
  intro pins s σ H xs us Q I r h
  obtain ⟨m,st,ds,d,st',R0,ix,e,q⟩:=h
  unfold M.bLen at e
  split at e
  · cases e
    obtain ⟨x,rfl,i⟩:=ix.one
    obtain ⟨p,ys,rfl,hq,iy⟩:=i.tup
    refine call_len_seq pins s σ H _ us Q I r ⟨p,ys,rfl,.inr hq,?_⟩
    rw [← iy.length]
    exact q.here R0 (mkInt _)
  · split at e
    · cases e
    · cases e
      obtain ⟨x,rfl,i⟩:=ix.one
      have l3:=lim_eq
      cases i.str
      exact call_len_str pins s σ H _ us Q I r ⟨_,rfl,by omega,q.here R0 (mkInt _)⟩
  · obtain ⟨ds',e1,e2⟩:=mapD e
    cases e2
    obtain ⟨x,rfl,i⟩:=ix.one
    obtain ⟨p,ys,_,rfl,hq,iy⟩:=R0.seq e1 i
    refine call_len_seq pins s σ H _ us Q I r ⟨p,ys,rfl,.inl hq,?_⟩
    rw [← iy.length]
    exact q.here R0 (mkInt _)
  · cases e
theorem call_minD (hc : X.calm = true) : CallR X (.builtin "min") (rC X.K M.bMin):=by
  intro pins s σ H xs us Q I r h
  obtain ⟨m,st,ds,d,st',R0,ix,e,q⟩:=h
  unfold M.bMin at e
  split at e
  · cases e
    obtain ⟨x,y,rfl,i,j⟩:=ix.two
    cases i.int; cases j.int
    exact call_min2 hc pins s σ H _ us Q I r ⟨_,_,rfl,q.here R0 (mkInt _)⟩
  · cases e
theorem call_maxD (hc : X.calm = true) : CallR X (.builtin "max") (rC X.K M.bMax):=by
  intro pins s σ H xs us Q I r h
  obtain ⟨m,st,ds,d,st',R0,ix,e,q⟩:=h
  unfold M.bMax at e
  split at e
  · cases e
    obtain ⟨x,y,rfl,i,j⟩:=ix.two
    cases i.int; cases j.int
    exact call_max2 hc pins s σ H _ us Q I r ⟨_,_,rfl,q.here R0 (mkInt _)⟩
  · cases e
theorem call_tupleD : CallR X (.type "tuple") (rC X.K M.bTuple):=by
  intro pins s σ H xs us Q I r h
  obtain ⟨m,st,ds,d,st',R0,ix,e,q⟩:=h
  unfold M.bTuple at e
  split at e
  · cases e
    obtain ⟨x,rfl,i⟩:=ix.one
    obtain ⟨p,ys,rfl,hq,iy⟩:=i.tup
    exact call_tuple_of pins s σ H _ us Q I r ⟨p,ys,rfl,.inr ⟨hq,q.here R0 (mkTup hq iy)⟩⟩
  · obtain ⟨ds',e1,e2⟩:=mapD e
    cases e2
    obtain ⟨x,rfl,i⟩:=ix.one
    obtain ⟨p,ys,_,rfl,hq,iy⟩:=R0.seq e1 i
    refine call_tuple_of pins s σ H _ us Q I r ⟨p,ys,rfl,.inl ⟨hq,fun l hl=>?_⟩⟩
    have sm:=same_new (o:=.tup ys) hl
    exact q _ m _ (Sub.refl m) (Tr.of_same sm) (R0.same sm) (mkTup (SqT.of upd_same) (isDs_mono (Sub.refl m) (Tr.of_same sm) _ _ iy))
  · cases e
theorem call_listD : CallR X (.type "list") (rC X.K M.bList):=by
  intro pins s σ H xs us Q I r h
  obtain ⟨m,st,ds,d,st',R0,ix,e,q⟩:=h
  unfold M.bList at e
  split at e
  · cases e
    obtain ⟨x,rfl,i⟩:=ix.one
    obtain ⟨p,ys,rfl,hq,iy⟩:=i.tup
    refine call_list_of pins s σ H _ us Q I r ⟨p,ys,rfl,.inr hq,fun l hl=>?_⟩
    exact q _ (m++[l]) _ (Sub.app m [l]) (Tr.of_same (same_new hl)) (R0.new hl iy) R0.newLoc
  · obtain ⟨ds',e1,e2⟩:=mapD e
    cases e2
    obtain ⟨x,rfl,i⟩:=ix.one
    obtain ⟨p,ys,_,rfl,hq,iy⟩:=R0.seq e1 i
    refine call_list_of pins s σ H _ us Q I r ⟨p,ys,rfl,.inl hq,fun l hl=>?_⟩
    exact q _ (m++[l]) _ (Sub.app m [l]) (Tr.of_same (same_new hl)) (R0.new hl iy) R0.newLoc
  · cases e
theorem bools_of {K : PySem.W.Frag} {m : List Addr} {H : Hp} : ∀ {ds : List D} {xs : List V} {its : List Value} {bs : List Bool},M.asBools ds = some bs→IsDs K m H ds xs→Vals xs its→LSm.BoolsAre its bs
  | [],_,_,_,e,ix,r=>by
    rw [ix.nil] at r
    cases r
    cases e
    exact .nil
  | d::ds,_,_,_,e,ix,r=>by
    obtain ⟨x,xr,rfl,q,t⟩:=ix.cons
    cases d with
    | bl b =>
      simp only [M.asBools] at e
      obtain ⟨bs',e1,e2⟩:=mapD e
      subst e2
      cases q.bl
      cases r with
      | cons r1 r2 =>
        cases r1
        exact .cons b (bools_of e1 t r2)
    | _=>simp [M.asBools] at e
theorem ints_of {K : PySem.W.Frag} {m : List Addr} {H : Hp} : ∀ {ds : List D} {xs : List V} {ns : List Int},M.asInts ds = some ns→IsDs K m H ds xs→xs = ns.map V.int∧ds = ns.map D.int
  | [],_,_,e,ix=>by
    cases e
    exact ⟨ix.nil,rfl⟩
  | d::ds,_,_,e,ix=>by
    obtain ⟨x,xr,rfl,q,t⟩:=ix.cons
    cases d with
    | int b =>
      simp only [M.asInts] at e
      obtain ⟨bs',e1,e2⟩:=mapD e
      subst e2
      cases q.int
      obtain ⟨h1,h2⟩:=ints_of e1 t
      rw [h1,h2]
      exact ⟨rfl,rfl⟩
    | _=>simp [M.asInts] at e
theorem call_allD (hc : X.calm = true) : CallR X (.builtin "all") (rC X.K M.bAll):=by
  intro pins s σ H xs us Q I r h
  obtain ⟨m,st,ds,d,st',R0,ix,e,q⟩:=h
  unfold M.bAll at e
  split at e
  · obtain ⟨ds',e1,e⟩:=bindO e
    obtain ⟨bs,e2,e3⟩:=mapD e
    cases e3
    obtain ⟨x,rfl,i⟩:=ix.one
    obtain ⟨p,ys,_,rfl,hq,iy⟩:=R0.seq e1 i
    obtain ⟨u,rfl,ru⟩:=vals1 r
    cases ru
    obtain ⟨its,rv,pl,_⟩:=I.list hq
    have hb:=bools_of e2 iy rv
    have hl:=pl.isList
    have hlt : p < s.heap.objs.size:=by obtain ⟨_,e,_⟩:=id hl; exact Heap.lt_size e
    refine call_all_walk (wpAny_pyIter_list hl ?_)
    refine ⟨s.heap.objs.size,[s.heap.objs.size,p],[s.heap.objs.size],its.toArray.size,_,_,fun i=>(bs[i]?).getD true,rfl,Walks.list (A:=X.A.in1) (I.ok.hd hc) _ p (Nat.ne_of_lt hlt) its.toArray,
      ⟨⟨_,Heap.get?_push_size _ rfl,rfl,rfl⟩,hl.push _⟩,fun i v s' Q' E' hP hQ=>?_,fun h' tk hk=>?_⟩
    · obtain ⟨b,e,rfl⟩:=hb.get i v (by simpa using hP)
      simp only [e,Option.getD_some] at hQ
      exact wpAny_truthy_bool hQ
    · have e : ((List.range its.toArray.size).all fun i=>(bs[i]?).getD true) = bs.all id:=by
        rw [List.size_toArray,hb.length]; exact LSm.range_all bs
      rw [e]
      exact ⟨.bl _,H,I.kept (LSm.kept_iter hk),rfl,q.here R0 (mkBl _)⟩
  · cases e
theorem insInt_perm (x : Int) : ∀ l : List Int,(M.insInt x l).Perm (x::l)
  | []=>.refl _
  | y::r=>by
    unfold M.insInt
    split
    · exact .refl _
    · exact ((insInt_perm x r).cons y).trans (.swap x y r)
theorem sortInt_perm : ∀ l : List Int,(M.sortInt l).Perm l
  | []=>.refl _
  | x::r=>by
    unfold M.sortInt
    exact (insInt_perm x _).trans ((sortInt_perm r).cons x)
theorem insInt_sorted (x : Int) : ∀ l : List Int,l.Pairwise (· ≤ ·)→(M.insInt x l).Pairwise (· ≤ ·)
  | [],_=>by unfold M.insInt; simp
  | y::r,h=>by
    unfold M.insInt
    split
    · rename_i hx
      refine List.Pairwise.cons (fun z hz=>?_) h
      rcases List.mem_cons.mp hz with e | e
      · rw [e]; exact hx
      · exact Int.le_trans hx ((List.pairwise_cons.mp h).1 z e)
    · rename_i hx
      have h':=List.pairwise_cons.mp h
      refine List.Pairwise.cons (fun z hz=>?_) (insInt_sorted x r h'.2)
      rcases List.mem_cons.mp ((insInt_perm x r).mem_iff.mp hz) with e | e
      · rw [e]; omega
      · exact h'.1 z e
theorem sortInt_sorted : ∀ l : List Int,(M.sortInt l).Pairwise (· ≤ ·)
  | []=>by unfold M.sortInt; simp
  | x::r=>by
    unfold M.sortInt
    exact insInt_sorted x _ (sortInt_sorted r)
theorem isDs_ints {K : PySem.W.Frag} {m : List Addr} {H : Hp} : ∀ (ns : List Int),IsDs K m H (ns.map D.int) (ns.map V.int)
  | []=>mkNil
  | n::r=>mkCons (mkInt n) (isDs_ints r)
theorem call_sortedD : CallR X (.builtin "sorted") (rC X.K M.bSorted):=by
  intro pins s σ H xs us Q I r h
  obtain ⟨m,st,ds,d,st',R0,ix,e,q⟩:=h
  unfold M.bSorted at e
  split at e
  · obtain ⟨ds',e1,e⟩:=bindO e
    obtain ⟨ns,e2,e3⟩:=mapD e
    cases e3
    split at e2
    · cases e2
    · rename_i h64
      obtain ⟨x,rfl,i⟩:=ix.one
      obtain ⟨p,ys,_,rfl,hq,iy⟩:=R0.seq e1 i
      obtain ⟨u,rfl,ru⟩:=vals1 r
      cases ru
      obtain ⟨its,rv,pl,_⟩:=I.list hq
      obtain ⟨e4,e5⟩:=ints_of e2 iy
      have l1:=iy.length
      have l2:=rv.length
      subst e4
      have hI : IntsAre its ns:=intsAre_of rv
      refine sorted_ints pl.isList hI (by omega) fun out ns' a1 a2 a3=>?_
      have e6 : ns' = M.sortInt ns:=PySem.W.ksm_same (a2.trans (sortInt_perm ns).symm) a3 (sortInt_sorted ns)
      subst e6
      obtain ⟨ep,he⟩:=sortedAll_at s.heap its out
      have fr : H (s.heap.objs.size + 1) = none:=I.hok.fresh (Nat.le_succ _)
      have l3:=(sortInt_perm ns).length_eq
      have l4:=lim_eq
      rw [List.length_map] at l1
      refine ⟨.ref (s.heap.objs.size + 1),upd H (s.heap.objs.size + 1) (.lst ((M.sortInt ns).map V.int)),I.laid (t':=s.toks) (fun b o e=>sortedAll_old e) (Nat.le_succ _) ?_,rfl,?_⟩
      · refine ⟨?_,out.toList,ep,vals_ints a1,?_⟩
        · rw [List.length_map,l3,l4]
          unfold M.lim
          omega
        · rw [he]
      · exact q _ (m++[_]) _ (Sub.app m _) (Tr.of_same (same_new fr)) (R0.new fr (isDs_ints _)) R0.newLoc
  · cases e
theorem kit_one (K : PySem.W.Frag) (n t : M.Ty) (ht : t ≠ .non) : PySem.W.kitOne K (.type n.name) (.type t.name) = some (M.tyIs t n):=by
  cases n <;> cases t <;> first
    | exact absurd rfl ht
    | rfl
    | decide +kernel
theorem kit_any (K : PySem.W.Frag) (n : M.Ty) : ∀ ts : List M.Ty,(∀ t ∈ ts,t ≠ .non)→PySem.W.kitAny K (.type n.name) (ts.map fun t=>Value.type t.name) = some (ts.any fun t=>M.tyIs t n)
  | [],_=>rfl
  | t::ts,h=>by
    rw [List.map_cons,List.any_cons]
    unfold PySem.W.kitAny
    rw [kit_one K n t (h t List.mem_cons_self)]
    cases M.tyIs t n with
    | true=>rfl
    | false=>exact kit_any K n ts fun t' ht=>h t' (List.mem_cons_of_mem _ ht)
theorem kit_of {pins : List (Addr × Obj)} {σ : L2.St} {H : Hp} {s : Shared} {m : List Addr} {st : Store} {d : D} {x : V} {u : Value} {n : M.Ty} (I : Inv X pins σ H s) (R0 : Rel X.K m st H) (h : IsD X.K m H d x) (r : RelV x u) (e : M.tyName st d = some n) :
    ∃ Hf : Heap→Prop,PySem.W.KitX X.K u (.type n.name) Hf∧Hf s.heap∧u ≠ .builtin "__main__.__loader__#opaque":=by
  cases d with
  | non=>cases h.non; cases r; cases e; exact ⟨_,PySem.W.kitx_none,True.intro,fun z=>nomatch z⟩
  | bl b=>cases h.bl; cases r; cases e; exact ⟨_,PySem.W.kitx_bool,True.intro,fun z=>nomatch z⟩
  | int b=>cases h.int; obtain ⟨t,rfl⟩:=r; cases e; exact ⟨_,PySem.W.kitx_int,True.intro,fun z=>nomatch z⟩
  | str b=>cases h.str; obtain ⟨t,rfl⟩:=r; cases e; exact ⟨_,PySem.W.kitx_str,True.intro,fun z=>nomatch z⟩
  | tup ds =>
    obtain ⟨a,xs,its,rfl,hq,ix,r1,p1⟩:=isD_tuple I h
    cases r
    cases e
    obtain ⟨o,h1,h2,_⟩:=p1
    exact ⟨_,PySem.W.kitx_tuple,⟨o,h1,h2⟩,fun z=>nomatch z⟩
  | loc l =>
    simp only [M.tyName] at e
    obtain ⟨ds,e1,e2⟩:=mapD e
    subst e2
    obtain ⟨a,xs,_,rfl,hq,ix⟩:=R0.seq e1 h
    cases r
    obtain ⟨its,rv,pl,_⟩:=I.list hq
    obtain ⟨o,h1,h2,_⟩:=pl.isList
    exact ⟨_,PySem.W.kitx_list,⟨o,h1,h2⟩,fun z=>nomatch z⟩
  | lst l =>
    simp only [M.tyName] at e
    obtain ⟨ds,e1,e2⟩:=mapD e
    subst e2
    obtain ⟨a,xs,_,rfl,hq,ix⟩:=R0.seq e1 h
    cases r
    obtain ⟨its,rv,pl,_⟩:=I.list hq
    obtain ⟨o,h1,h2,_⟩:=pl.isList
    exact ⟨_,PySem.W.kitx_list,⟨o,h1,h2⟩,fun z=>nomatch z⟩
noncomputable def rIsi1 (K : PySem.W.Frag) (t : M.Ty) : List V→Hp→VK→Prop:=fun xs H Q=>∃ m st d n x,xs = [x,.ty t.name]∧Rel K m st H∧IsD K m H d x∧M.tyName st d = some n∧Q (.bl (M.tyIs t n)) H
theorem call_isi1 (t : M.Ty) (ht : t ≠ .non) : CallR X (.builtin "isinstance") (rIsi1 X.K t):=by
  intro pins s σ H xs us Q I r h
  obtain ⟨m,st,d,n,x,rfl,R0,i,e,q⟩:=h
  obtain ⟨u,w,rfl,ru,rw'⟩:=vals2 r
  cases rw'
  obtain ⟨Hf,Z,p,hx⟩:=kit_of I R0 i ru e
  exact PySem.W.kia_one Z I.kIn p (kit_one X.K n t ht) hx fun tk=>⟨.bl _,H,I.tok tk,rfl,q⟩
noncomputable def rIsiN (K : PySem.W.Frag) (ts : List M.Ty) : List V→Hp→VK→Prop:=fun xs H Q=>∃ m st d n x p,xs = [x,.ref p]∧H p = some (.tup (ts.map fun t=>V.ty t.name))∧Rel K m st H∧IsD K m H d x∧M.tyName st d = some n∧Q (.bl (ts.any fun t=>M.tyIs t n)) H
theorem vals_tys : ∀ {ts : List M.Ty} {us : List Value},Vals (ts.map fun t=>V.ty t.name) us→us = ts.map fun t=>Value.type t.name
  | [],_,.nil=>rfl
  | t::ts,_,.cons r q=>by
    cases r
    rw [vals_tys q]
    rfl
theorem call_isiN (ts : List M.Ty) (ht : ∀ t ∈ ts,t ≠ .non) : CallR X (.builtin "isinstance") (rIsiN X.K ts):=by
  intro pins s σ H xs us Q I r h
  obtain ⟨m,st,d,n,x,p,rfl,hp,R0,i,e,q⟩:=h
  obtain ⟨u,w,rfl,ru,rw'⟩:=vals2 r
  cases rw'
  obtain ⟨Hf,Z,pz,hx⟩:=kit_of I R0 i ru e
  obtain ⟨_,its,rv,⟨cls,dd,data,sl⟩,h1,h2,nn,h3⟩:=I.hok p _ hp
  have e1:=vals_tys rv
  subst e1
  simp only at h2 h3
  subst h2 h3
  exact PySem.W.kia_tup Z I.kIn pz h1 (kit_any X.K n ts ht) hx fun tk=>⟨.bl _,H,I.tok tk,rfl,q⟩
end
end MS
end
section
set_option linter.all false
set_option Elab.async false
set_option maxRecDepth 100000
set_option maxHeartbeats 4000000
namespace MS
open PySem PySem.Spec PyProof.Rows L2
noncomputable def closL (cells : List (Str × Addr)) : List (Str × NameKind)→List (Str × Addr)→List (Str × Addr)
  | [],acc=>acc
  | (n,k)::r,acc=>closL cells r (if k == .free then (match cells.lookup n with | some a=>(n,a)::acc | none=>acc) else acc)
theorem clos_loop {env : Env} : ∀ (names : List (Str × NameKind)) (acc : List (Str × Addr)),(∀ x ∈ names,x.2 = .free→∃ c,env.cells.lookup x.1 = some c) →
    (forIn names acc fun x r=>match x,r with
      | (name,kind),cs=>if (kind == .free) = true then do let a ← cellOf env name; pure (ForInStep.yield ((name,a)::cs)) else pure (ForInStep.yield cs) : Sem (List (Str × Addr))) = pure (closL env.cells names acc):=by
  intro names
  induction names with
  | nil=>intro acc _; rfl
  | cons x r ih =>
    intro acc h
    obtain ⟨n,k⟩:=x
    rw [List.forIn_cons]
    have hr:=fun acc=>ih acc fun y hy=>h y (List.mem_cons_of_mem _ hy)
    by_cases hk : k = .free
    · subst hk
      obtain ⟨c,hc⟩:=h (n,.free) List.mem_cons_self rfl
      simp only [beq_self_eq_true,if_true,cellOf,hc]
      show (do let r_1 ← (do let a ← (pure c : Sem Addr); pure (ForInStep.yield ((n,a)::acc))); match r_1 with | .done b=>pure b | .yield b=>_) = _
      simp only [pure_bind]
      refine (hr ((n,c)::acc)).trans ?_
      have hc' : env.cells.lookup n = some c:=hc
      simp [closL,hc']
    · have hb : (k == NameKind.free) = false:=by simpa using hk
      simp only [hb,Bool.false_eq_true,if_false,pure_bind]
      refine (hr acc).trans ?_
      simp [closL,hb]
theorem closureFor_of {scope : Scope} {env : Env} (h : ∀ x ∈ scope.names,x.2 = .free→∃ c,env.cells.lookup x.1 = some c) : closureFor scope env = pure (closL env.cells scope.names []):=by
  unfold closureFor
  have:=clos_loop (env:=env) scope.names [] h
  simp only [this]
  rfl
theorem closL_in {cells : List (Str × Addr)} {x : Str} {c : Addr} (hc : cells.lookup x = some c) : ∀ (names : List (Str × NameKind)) (acc : List (Str × Addr)),((x,NameKind.free) ∈ names∨acc.lookup x = some c)→(closL cells names acc).lookup x = some c
  | [],acc,h=>by
    rcases h with h | h
    · cases h
    · exact h
  | (n,k)::r,acc,h=>by
    unfold closL
    refine closL_in hc r _ ?_
    by_cases hk : k = .free
    · subst hk
      simp only [beq_self_eq_true,if_true]
      by_cases hn : n = x
      · subst hn
        rw [hc]
        exact .inr (by simp)
      · rcases h with h | h
        · rcases List.mem_cons.mp h with e | e
          · cases e; exact absurd rfl hn
          · exact .inl e
        · refine .inr ?_
          split
          · have : (x == n) = false:=by simpa using Ne.symm hn
            rw [List.lookup_cons,this]; exact h
          · exact h
    · have hb : (k == NameKind.free) = false:=by simpa using hk
      rw [hb,if_neg Bool.false_ne_true]
      rcases h with h | h
      · rcases List.mem_cons.mp h with e | e
        · cases e; exact absurd rfl hk
        · exact .inl e
      · exact .inr h
theorem closL_out {cells : List (Str × Addr)} : ∀ (names : List (Str × NameKind)) (acc : List (Str × Addr)),(∀ x c,acc.lookup x = some c→cells.lookup x = some c)→∀ x c,(closL cells names acc).lookup x = some c→cells.lookup x = some c
  | [],acc,h,x,c,e=>h x c e
  | (n,k)::r,acc,h,x,c,e=>by
    unfold closL at e
    refine closL_out r _ ?_ x c e
    intro y d q
    by_cases hk : (k == NameKind.free) = true
    · rw [if_pos hk] at q
      split at q
      · rename_i a ha
        by_cases hy : (y == n) = true
        · rw [List.lookup_cons,hy] at q
          rw [eq_of_beq hy,ha]; exact q
        · have : (y == n) = false:=by simpa using hy
          rw [List.lookup_cons,this] at q
          exact h y d q
      · exact h y d q
    · rw [if_neg hk] at q
      exact h y d q
theorem relabel_lookup (env : Env) : ∀ (names : List (Str × NameKind)) (x : Str),(names.map fun (n,k)=>if (k == NameKind.free && env.scope.kind == .function && env.kindOf n == some .cell) then (n,NameKind.cell) else (n,k)).lookup x =
    (names.lookup x).map fun k=>if (k == NameKind.free && env.scope.kind == .function && env.kindOf x == some .cell) then NameKind.cell else k
  | [],x=>rfl
  | (n,k)::r,x=>by
    have ih:=relabel_lookup env r x
    rw [List.map_cons]
    by_cases hx : (x == n) = true
    · have e:=eq_of_beq hx
      subst e
      dsimp only
      split
      · rename_i hc
        rw [List.lookup_cons,hx,List.lookup_cons,hx]
        dsimp only [Option.map_some]
        rw [if_pos hc]
      · rename_i hc
        rw [List.lookup_cons,hx,List.lookup_cons,hx]
        dsimp only [Option.map_some]
        rw [if_neg hc]
    · have hx' : (x == n) = false:=by simpa using hx
      dsimp only
      split
      · rw [List.lookup_cons,hx',List.lookup_cons,hx']; exact ih
      · rw [List.lookup_cons,hx',List.lookup_cons,hx']; exact ih
section
variable {prog : Program} {w : World} {A : Around} {R : Result→Shared→Prop} {s : Shared}
noncomputable abbrev NoX : Value→Shared→Prop:=fun _ _=>False
theorem compLoop_any {elt target iter : Expr} {ifs : List Expr} {scope : Scope} {pos : Pos} {it acc : Value} {env : Env} (I : Nat→Shared→Prop)
    (turn : ∀ n s,I n s→wpAny (model prog w) A (pyNext it) (fun r s₁=>match r with
      | none=>R (.ok .next) s₁
      | some v=>wpAny (model prog w) A (letOwnedTupleGo target it v) (fun _ s₀=>wpAny (model prog w) A (assign target env v) (fun _ s₂ =>
          wpAny (model prog w) A (forIn ifs true fun c r=>if r = true then do let ok ← isTrue c env (eval c env); pure (ForInStep.yield ok) else pure (ForInStep.yield r)) (fun ok s₃ =>
            if ok = true then wpAny (model prog w) A (eval elt env) (fun x s₄=>wpAny (model prog w) A (call (.builtin "list.append") [acc,x]) (fun _ s₅=>∃ m,m < n∧I m s₅) NoX s₄) NoX s₃
            else ∃ m,m < n∧I m s₃) NoX s₂) NoX s₀) NoX s₁) NoX s)
    (n : Nat) (h : I n s) : codeAny (model prog w) A (.compLoop (.ListComp elt [⟨target,iter,ifs,0⟩] scope pos) 0 it acc env) R s:=by
  refine codeAny_loop rfl I (fun n s hI=>?_) n h
  show wpAny _ A ((compTurn (.ListComp elt [⟨target,iter,ifs,0⟩] scope pos) 0 it acc env).onRaise (fun x=>do noteFrame x env; theTreesLotGoes x)) _ _ s
  refine wpAny_noted ?_
  rw [compTurn_list]
  refine wpAny_bind (wpAny_standAt (wpAny_bind (wpAny_mono (turn n s hI) (fun r s₁ h₁=>?_) fun _ _ z=>z.elim)))
  cases r with
  | none=>exact wpAny_pure h₁
  | some v =>
    refine wpAny_bind (wpAny_mono h₁ (fun _ s₀ h₀=>?_) fun _ _ z=>z.elim)
    refine wpAny_bind (wpAny_mono h₀ (fun _ s₂ h₂=>wpAny_bind (wpAny_mono h₂ (fun ok s₃ h₃=>?_) fun _ _ z=>z.elim)) fun _ _ z=>z.elim)
    cases ok with
    | false=>exact wpAny_pure ⟨rfl,h₃⟩
    | true =>
      exact wpAny_bind (wpAny_bind (wpAny_mono h₃ (fun x s₄ h₄=>wpAny_bind (wpAny_mono h₄ (fun _ s₅ h₅=>wpAny_pure (wpAny_pure ⟨rfl,h₅⟩)) fun _ _ z=>z.elim)) fun _ _ z=>z.elim))
end
theorem HOk.track {P : Program} {w : World} {H : Hp} {h : Heap} {a : Addr} {o : HO} (x : HOk P w H h) (hn : H a = none) (new : ObjOk P w (upd H a o) h a o) : HOk P w (upd H a o) h:=fun b u e=>by
  by_cases hb : b = a
  · subst hb; rw [upd_same] at e; cases e; exact new
  · rw [upd_ne hb] at e
    exact (x b u e).stay (fun c v _ q=>q) (fun c q=>by rw [upd_ne (ne_of_none q hn)]; exact q) fun c xs q=>by rw [upd_ne (ne_of_none q hn)]; exact q
theorem Inv.track {X : Cx} {pins : List (Addr × Obj)} {σ : L2.St} {H : Hp} {s : Shared} {a : Addr} {o : HO} (I : Inv X pins σ H s) (hf : FpOk X pins H a) (new : ObjOk X.prog X.w (upd H a o) s.heap a o) : Inv X pins σ (upd H a o) s:=by
  obtain ⟨f0,f1,f2,f3,f4,f5⟩:=hf
  refine I.step (h':=s.heap) (g':=s.gens) (t':=s.toks) (d':=s.drawn) (ch:=[a]) (fun b hb=>?_) (fun b o _ _ _ e _=>e) (fun b o _ _ _ e _=>⟨o.slots,e⟩) (fun b o hb e n=>?_) (fun b o _ e=>⟨o,e⟩)
    (fun b xs e=>by rw [upd_ne (ne_of_none e f0)]; exact e) (fun b o u e=>by rw [upd_ne (ne_of_none e f0)]; exact e) (fun b ps e=>⟨#[],by rw [upd_ne (ne_of_none e f0),e]; simp⟩) (fun m h=>h) (HOk.track I.hok f0 new) I.bare
  · have e : b = a:=by simpa using hb
    subst e
    exact ⟨f3,f1,f4,f5⟩
  · rw [upd_ne (by simpa using hb)]; exact n
noncomputable def cxComp (X : Cx) (N : List Str) (scope : Scope) (C : Addr) (fp : List Addr) (s : Shared) (H : Hp) : Cx :=
  { X with N:=N,s₀:=s,H₀:=H,env:=compEnvC scope (closL X.env.cells scope.names []) C X.env,outer:=X.stack,ex:=fp,fn:=fun _=>false,pn:=[],xe:=fun _ _=>False }
noncomputable def innerS (src : List (Option Nat)) (σ : L2.St) : L2.St:=src.map fun o=>o.bind fun i=>(σ[i]?).bind id
structure CompScope (X : Cx) (N : List Str) (src : List (Option Nat)) (scope : Scope) : Prop where
  kind : scope.kind = .function
  cell : ∀ y ∈ scope.names,y.2 ≠ .cell
  free : ∀ y ∈ scope.names,y.2 = .free→X.env.kindOf y.1 = some .cell∨X.env.kindOf y.1 = some .free
  loc : ∀ y ∈ scope.names,y.2 = .local→scope.names.lookup y.1 = some .local
  len : src.length = N.length
  src : ∀ (j i : Nat),src[j]? = some (some i)→∃ x,N[j]? = some x∧X.N[i]? = some x∧scope.names.lookup x = some .free
section
variable {X : Cx} {pins : List (Addr × Obj)} {σ : L2.St} {H : Hp} {s : Shared}
theorem mem_lookup {names : List (Str × NameKind)} {x : Str} {k : NameKind} (h : names.lookup x = some k) : (x,k) ∈ names:=PySem.mem_of_lookup h
theorem comp_clos {N : List Str} {src : List (Option Nat)} {scope : Scope} (S : CompScope X N src scope) (I : Inv X pins σ H s) : closureFor scope X.env = pure (closL X.env.cells scope.names []) :=
  closureFor_of fun x hx hk=>I.ok.has x.1 (S.free x hx hk)
theorem comp_ok {N : List Str} {src : List (Option Nat)} {scope : Scope} {C : Addr} {fp : List Addr} (S : CompScope X N src scope) (I : Inv X pins σ H s) (hC : s.heap.objs.size ≤ C) (hfp : ∀ b ∈ fp,FpOk X pins H b) (hlt : ∀ b ∈ fp,b < s.heap.objs.size) : (cxComp X N scope C fp s H).Ok where
  mod:=I.ok.mod
  kind:=S.kind
  glob:=I.ok.glob
  blt:=I.ok.blt
  above:=hC
  inj:=fun x y c h1 h2=>I.ok.inj x y c (closL_out _ [] (fun _ _ z=>nomatch z) x c h1) (closL_out _ [] (fun _ _ z=>nomatch z) y c h2)
  has:=fun x h=>by
    have e : (cxComp X N scope C fp s H).env.kindOf x = (scope.names.lookup x).map fun k=>if (k == NameKind.free && X.env.scope.kind == .function && X.env.kindOf x == some .cell) then NameKind.cell else k:=relabel_lookup X.env scope.names x
    rw [e] at h
    cases q : scope.names.lookup x with
    | none=>rw [q] at h; rcases h with h | h <;> cases h
    | some k =>
      have hk : k = .free:=by
        rw [q] at h
        simp only [Option.map_some,Option.some.injEq] at h
        by_cases hc : (k == NameKind.free && X.env.scope.kind == .function && X.env.kindOf x == some .cell) = true
        · simp only [Bool.and_eq_true] at hc
          exact eq_of_beq hc.1.1
        · rw [if_neg hc] at h
          rcases h with h | h
          · subst h; exact absurd rfl (S.cell _ (mem_lookup q))
          · exact h
      subst hk
      have hm:=mem_lookup q
      obtain ⟨c,hc⟩:=I.ok.has x (S.free _ hm rfl)
      exact ⟨c,closL_in hc _ _ (.inl hm)⟩
  cab:=fun x c h=>by cases h
  hd:=I.ok.hd
  frames:=I.ok.frames
  stk:=.inl rfl
  exf:=fun b hb=>⟨Nat.ne_of_lt (Nat.lt_of_lt_of_le (hlt b hb) hC),fun x c e=>(hfp b hb).2.2.2.2.1 x c (closL_out _ [] (fun _ _ z=>nomatch z) x c e)⟩
  bs:=I.bs
  bsz:=Nat.le_trans I.ok.bsz I.sz
  noex:=fun b o e hb=>by
    rcases (hfp b hb).2.2.2.1 with z | z
    · exact I.ok.noex b o e z
    · exact absurd (Nat.lt_of_lt_of_le (Heap.lt_size e) (Nat.le_trans I.ok.bsz z)) (Nat.lt_irrefl _)
  exfs:=fun b hb hf=>by
    have f:=hfp b hb
    rcases List.mem_cons.mp (I.stkSub b hf) with z | z
    · exact f.2.1 z
    · exact f.2.2.1 z
  funs:=I.stack
  frf:=I.stkFree
theorem comp_start {N : List Str} {src : List (Option Nat)} {scope : Scope} {C : Addr} {fp : List Addr} {h' : Heap} {tk : Nat} {m' : Str→Option Value} (S : CompScope X N src scope) (I : Inv X pins σ H s) (hC : s.heap.objs.size ≤ C) (hfp : ∀ b ∈ fp,FpOk X pins H b) (hlt : ∀ b ∈ fp,b < s.heap.objs.size)
    (kp : ∀ b o,s.heap.get? b = some o→h'.get? b = some o) (ns : h'.Ns C m') : Inv (cxComp X N scope C fp s H) [] (innerS src σ) H { s with heap:=h',toks:=tk }:=by
  have O:=comp_ok S I hC hfp hlt
  refine ⟨O,rfl,I.bare,Un.kept kp,⟨m',ns,fun j x v hN hσ hv=>?_⟩,fun x c e=>?_,I.hok.fresh hC,fun x c e=>?_,fun p hp=>absurd (show p ∈ ([] : List (Addr × Obj)) from hp) (by simp),I.hok.kept kp,?_⟩
  · unfold innerS at hσ
    rw [List.getElem?_map] at hσ
    cases q : src[j]? with
    | none=>rw [q] at hσ; cases hσ
    | some o =>
      rw [q] at hσ
      cases o with
      | none=>cases hσ
      | some i =>
        obtain ⟨x',e1,e2,e3⟩:=S.src j i q
        have hN : N[j]? = some x:=hN
        rw [hN] at e1
        cases e1
        have hi : σ[i]? = some (some v):=by
          cases z : σ[i]? with
          | none=>simp [z] at hσ
          | some w =>
            cases w with
            | none=>simp [z] at hσ
            | some w=>simpa [z] using hσ
        obtain ⟨m0,hn0,hl0⟩:=I.loc
        have hk:=S.free _ (mem_lookup e3) rfl
        have vis : Vis X.env.scope x:=by
          rcases hk with z | z
          · exact .inr (.inl z)
          · exact .inr (.inr z)
        obtain ⟨u,ru,lk⟩:=hl0 i x v e2 hi vis
        refine ⟨u,ru,?_⟩
        rcases lk with ⟨z,_⟩ | ⟨_,c,hc,hcell⟩
        · rcases hk with y | y
          · rw [y] at z; cases z
          · rw [y] at z; cases z
        · refine .inr ⟨?_,c,closL_in hc _ _ (.inl (mem_lookup e3)),?_⟩
          · have e : (cxComp X N scope C fp s H).env.kindOf x = (scope.names.lookup x).map fun k=>if (k == NameKind.free && X.env.scope.kind == .function && X.env.kindOf x == some .cell) then NameKind.cell else k:=relabel_lookup X.env scope.names x
            rw [e,e3]
            simp only [Option.map_some,Option.some.injEq]
            by_cases hc : (NameKind.free == NameKind.free && X.env.scope.kind == .function && X.env.kindOf x == some .cell) = true
            · rw [if_pos hc]; exact .inl rfl
            · rw [if_neg hc]; exact .inr rfl
          · obtain ⟨o,ho,hd⟩:=hcell
            exact ⟨o,kp c o ho,hd⟩
  · have e':=closL_out _ [] (fun _ _ z=>nomatch z) x c e
    obtain ⟨v,o,ho,hd⟩:=I.cell x c e'
    exact ⟨v,o,kp c o ho,hd⟩
  · exact I.freeC x c (closL_out _ [] (fun _ _ z=>nomatch z) x c e)
  · unfold innerS
    rw [List.length_map]
    exact S.len
end
noncomputable def TestR (X : Cx) (ifs : List Expr) (tt : TT) : Prop:=∀ (pins : List (Addr × Obj)) (s : Shared) (σ : L2.St) (H : Hp) (Q : Bool→Hp→Prop),Inv X pins σ H s→tt σ H Q →
  wpAny (model X.prog X.w) X.A (forIn ifs true fun c r=>if r = true then do let ok ← isTrue c X.env (eval c X.env); pure (ForInStep.yield ok) else pure (ForInStep.yield r)) (TP X pins σ Q) X.xe s
theorem test_nil {X : Cx} : TestR X [] (fun _ H Q=>Q true H):=fun pins s σ H Q I h=>by
  show wpAny _ _ (pure true) _ _ _
  exact wpAny_pure ⟨H,I,h⟩
theorem test_one {X : Cx} {c : Expr} {tc : TT} (hc : PT X c tc) : TestR X [c] tc:=fun pins s σ H Q I h=>by
  rw [List.forIn_cons]
  simp only [if_true]
  refine wpAny_bind (wpAny_bind (thn (hc pins s σ H Q I h) fun b s1 q=>wpAny_pure ?_))
  show wpAny _ _ (pure b) _ _ _
  exact wpAny_pure q
theorem comp_block {X : Cx} {pins : List (Addr × Obj)} {σ : L2.St} {H : Hp} {s : Shared} {elt tg iter : Expr} {ifs : List Expr} {scope : Scope} {pos : Pos} {it : Addr} {fp : List Addr} {tn : Nat→Heap→Prop} {J : It} {N : List Str} {src : List (Option Nat)}
    {g : TG} {tt : TT} {te : TE} {E : Value→Shared→Prop} {Fin : List V→Hp→Prop} {RR : Value→Addr→Result→Shared→Prop} (hc : X.calm = true) (I : Inv X pins σ H s) (T : Turn X.prog X.w X.K tg J fp it tn) (st0 : tn 0 s.heap) (hfp : ∀ b ∈ fp,FpOk X pins H b) (S : CompScope X N src scope)
    (hg : ∀ C,PG (cxComp X N scope C fp s H) tg g) (ht : ∀ C,TestR (cxComp X N scope C fp s H) ifs tt) (he : ∀ C,PE (cxComp X N scope C fp s H) elt te)
    (W : Nat→Nat→List V→L2.St→Hp→Prop) (w0 : ∃ k,W 0 k [] (innerS src σ) H)
    (step : ∀ i k acc σ H,W i k acc σ H→(J.stop i H∧acc.length ≤ sizeLine∧Fin acc H)∨(J.go i H∧acc.length < sizeLine∧∀ x H',J.yld i H x H'→g x σ H' fun σ2 H2=>tt σ2 H2 fun b H3 =>
      if b = true then te σ2 H3 fun v H4=>∃ k',k' < k∧W (i + 1) k' (acc++[v]) σ2 H4 else ∃ k',k' < k∧W (i + 1) k' acc σ2 H3))
    (hRR : ∀ D C s' H' acc,Fin acc H'→H' D = none→Inv X pins σ (upd H' D (.lst acc)) s'→FpOk X pins (upd H' D (.lst acc)) C→(∃ m,s'.heap.Ns C m)→RR (.ref D) C (.ok .next) s') :
    wpAny (model X.prog X.w) X.A (newList []) (fun acc s₃=>wpAny (model X.prog X.w) X.A (newFunctionEnv scope X.env.globals (closL X.env.cells scope.names []) [] X.env.qual none .none (some X.env)) (fun cenv s₄ =>
      codeAny (model X.prog X.w) X.A (.compStart (.ListComp elt [⟨tg,iter,ifs,0⟩] scope pos) 0 (.ref it) acc { cenv with scope:=relabel scope X.env }) (RR acc cenv.locals) s₄) E s₃) E s:=by
  have hlt : ∀ b ∈ fp,b < s.heap.objs.size:=fun b hb=>by obtain ⟨o,e,_⟩:=T.obj 0 _ st0 b hb; exact Heap.lt_size e
  refine wpAny_newObj_type (wpAny_newFunctionEnv S.cell (by intro y hy; simp at hy) (fun h₁ hns₁ hsb₁=>?_) S.kind)
  dsimp only at hns₁ hsb₁ ⊢
  generalize hH2 : s.heap.push { cls:=.type "list",dict:=none,data:=.seq ([] : List Value).toArray } = H2 at hns₁ hsb₁ ⊢
  have hC : H2.objs.size = s.heap.objs.size + 1:=by rw [← hH2,Heap.size_push]
  have hDC : s.heap.objs.size ≠ H2.objs.size:=by rw [hC]; exact Nat.ne_of_lt (Nat.lt_succ_self _)
  have hCle : s.heap.objs.size ≤ H2.objs.size:=by rw [hC]; exact Nat.le_succ _
  have old : ∀ b o,s.heap.get? b = some o→h₁.get? b = some o:=fun b o e=>hsb₁.extBut b o (by rw [hC]; exact Nat.ne_of_lt (Nat.lt_succ_of_lt (Heap.lt_size e))) (Heap.get?_push_of_some _ (hH2 ▸ Heap.get?_push_of_some _ e))
  have hacc : h₁.get? s.heap.objs.size = some { cls:=.type "list",data:=.seq ([] : List Value).toArray }:=hsb₁.extBut _ _ hDC (Heap.get?_push_of_some _ (hH2 ▸ Heap.get?_push_size _ rfl))
  -- the block's own names
  generalize hDd : s.heap.objs.size = Dd at hDC hCle hacc
  generalize hCc : H2.objs.size = Cc at hDC hCle hns₁ hsb₁ hC ⊢
  have hDs : s.heap.objs.size ≤ Dd:=Nat.le_of_eq hDd
  have hCs : s.heap.objs.size ≤ Cc:=by rw [hDd]; exact hCle
  have fD : H Dd = none:=I.hok.fresh hDs
  have I1 : Inv (cxComp X N scope Cc fp s H) [] (innerS src σ) H { s with heap:=h₁,toks:=s.toks + ([] : List (Str × Value)).length }:=comp_start S I hCs hfp hlt old hns₁
  have nfp : ∀ b ∈ fp,b ≠ Dd:=fun b hb=>by rw [← hDd]; exact Nat.ne_of_lt (hlt b hb)
  have cellD : ∀ x c,(cxComp X N scope Cc fp s H).env.cells.lookup x = some c→c ≠ Dd:=fun x c e z=>by
    have e':=closL_out _ [] (fun _ _ z=>nomatch z) x c e
    obtain ⟨v,o,ho,_⟩:=I.cell x c e'
    rw [z,← hDd] at ho
    exact Nat.lt_irrefl _ (Heap.lt_size ho)
  have fsD : Dd ∉ (cxComp X N scope Cc fp s H).fs:=fun z=>by
    obtain ⟨_,o,ho,_⟩:=I1.ok.funs.mem z
    have ho : s.heap.get? Dd = some o:=ho
    rw [← hDd] at ho
    exact Nat.lt_irrefl _ (Heap.lt_size ho)
  have stat : ∀ {pl : List (Addr × Obj)} {H' : Hp},(∀ p ∈ pl,p.1 = Dd)→(∀ b ∈ fp,H' b = none)→∀ b ∈ fp,FpOk (cxComp X N scope Cc fp s H) pl H' b:=fun {pl H'} hpl hn b hb =>
    ⟨hn b hb,(I1.ok.exf b hb).1,I1.ok.exfs b hb,.inl hb,(I1.ok.exf b hb).2,fun p hp=>by
      have hp' : p ∈ pl:=hp
      rw [hpl p hp']; exact (nfp b hb).symm⟩
  obtain ⟨k0,w0⟩:=w0
  have loop : ∀ s₃ : Shared,s₃ = { s with heap:=h₁,toks:=s.toks + ([] : List (Str × Value)).length } →
      codeAny (model X.prog X.w) X.A (.compLoop (.ListComp elt [⟨tg,iter,ifs,0⟩] scope pos) 0 (.ref it) (.ref Dd) (compEnvC scope (closL X.env.cells scope.names []) Cc X.env)) (RR (.ref Dd) Cc) s₃:=by
    rintro s₃ rfl
    refine compLoop_any (fun k s'=>∃ i acc its nn σ' H',Inv (cxComp X N scope Cc fp s H) [] σ' H' s'∧tn i s'.heap∧(∀ b ∈ fp,H' b = none)∧W i k acc σ' H'∧Vals acc its∧s'.heap.get? Dd = some { cls:=.type "list",data:=.seq its.toArray nn }∧H' Dd = none) ?_ k0
      ⟨0,[],[],0,innerS src σ,H,I1,T.keep _ _ _ st0 fun b _ o e=>old b o e,fun b hb=>(hfp b hb).1,w0,.nil,hacc,fD⟩
    rintro k s3 ⟨i,acc,its,nn,σ3,H3,I3,t3,fr3,w3,rv,ho3,nD3⟩
    have I3' : Inv (cxComp X N scope Cc fp s H) [(Dd,{ cls:=.type "list",data:=.seq its.toArray nn })] σ3 H3 s3:=I3.pins_of fun p hp=>by
      have e : p = (Dd,{ cls:=.type "list",data:=.seq its.toArray nn }):=by simpa using hp
      subst e
      exact ⟨ho3,nD3,hDC,fsD,fun v z=>by
        have z' : Data.seq its.toArray nn = Data.cell v:=z
        cases z'⟩
    rcases step i k acc σ3 H3 w3 with ⟨stop,hz,fin⟩ | ⟨go,hz,next⟩
    · refine thn (T.done (cxComp X N scope Cc fp s H) rfl rfl rfl hc i _ s3 σ3 H3 NoX I3' (stat (fun p hp=>by rw [List.mem_singleton.mp hp]) fr3) t3 stop) fun r s4 ⟨hr,I4⟩=>?_
      subst hr
      have p4:=I4.pin (Dd,{ cls:=.type "list",data:=.seq its.toArray nn }) (List.mem_append_right _ (by simp))
      have I5 : Inv X pins σ H3 s4:=I.call' I4.os I4.base I4.hok I4.bare fun b hb=>⟨(hfp b hb).2.2.2.1,(hfp b hb).2.1,(hfp b hb).2.2.2.2.1,(hfp b hb).2.2.2.2.2⟩
      have fpD : FpOk X pins H3 Dd:=I.fpOk hDs nD3
      refine hRR Dd Cc s4 H3 acc fin nD3 (Inv.track I5 fpD ⟨hz,its,nn,rv,p4.1⟩) (I.fpOk hCs (by rw [upd_ne (Ne.symm hDC)]; exact I4.free)) ?_
      obtain ⟨m4,n4,_⟩:=I4.loc
      exact ⟨m4,n4⟩
    · refine thn (T.item (cxComp X N scope Cc fp s H) rfl rfl rfl hc i _ s3 σ3 H3 NoX I3' (stat (fun p hp=>by rw [List.mem_singleton.mp hp]) fr3) t3 go) fun r s4 ⟨u,hr,h4⟩=>?_
      subst hr
      refine thn h4 fun _ s5 ⟨x,H5,I5,r5,y5,t5,fr5⟩=>?_
      have I5':=I5.pinned (stat (fun p hp=>by rw [List.mem_singleton.mp hp]) fr5) (T.obj _ _ t5)
      refine thn (hg Cc _ s5 σ3 H5 x u _ I5' r5 (next x H5 y5)) fun _ s6 ⟨σ6,H6,I6,q6⟩=>?_
      refine thn (ht Cc _ s6 σ6 H6 _ I6 q6) fun b s7 ⟨H7,I7,q7⟩=>?_
      have back : ∀ {σ8 : L2.St} {H8 : Hp} {s8 : Shared},Inv (cxComp X N scope Cc fp s H) ([(Dd,{ cls:=.type "list",data:=.seq its.toArray nn })]++pinsAt fp s5.heap) σ8 H8 s8 →
          tn (i + 1) s8.heap∧(∀ b ∈ fp,H8 b = none)∧s8.heap.get? Dd = some { cls:=.type "list",data:=.seq its.toArray nn }∧H8 Dd = none:=fun {σ8 H8 s8} I8=>by
        refine ⟨T.keep _ _ _ t5 fun b hb o e=>(I8.pin (b,o) (List.mem_append_right _ (List.mem_append_right _ (mem_pinsAt hb e)))).1,fun b hb=>?_,?_,?_⟩
        · obtain ⟨o,e,d⟩:=T.obj _ _ t5 b hb
          exact (I8.pin (b,o) (List.mem_append_right _ (List.mem_append_right _ (mem_pinsAt hb e)))).2.1
        · exact (I8.pin (Dd,_) (List.mem_append_right _ (List.mem_append_left _ (by simp)))).1
        · exact (I8.pin (Dd,{ cls:=.type "list",data:=.seq its.toArray nn }) (List.mem_append_right _ (List.mem_append_left _ (by simp)))).2.1
      cases b with
      | false =>
        simp only [Bool.false_eq_true,if_false] at q7 ⊢
        obtain ⟨k',hk,w7⟩:=q7
        obtain ⟨b1,b2,b3,b4⟩:=back I7
        exact ⟨k',hk,i + 1,acc,its,nn,σ6,H7,I7.pins_of fun p hp=>absurd hp (by simp),b1,b2,w7,rv,b3,b4⟩
      | true =>
        simp only [if_true] at q7 ⊢
        refine thn (he Cc _ s7 σ6 H7 _ I7 q7) fun y s8 ⟨v8,H8,I8,r8,k',hk,w8⟩=>?_
        obtain ⟨b1,b2,b3,b4⟩:=back I8
        have l1:=rv.length
        refine call_meets F.slot_list_append ⟨_,b3,rfl⟩ F.entry_list_append (F.args_list_append_2 _ _) (PySem.list_append Dd its.toArray nn y (by rw [List.size_toArray]; omega)) ⟨b3,?_⟩
        have q:=PySem.IsL.update b3 (fun a=>a.push y)
        have hpush : its.toArray.push y = (its++[y]).toArray:=by simp
        rw [hpush] at q
        have I9 : Inv (cxComp X N scope Cc fp s H) [] σ6 H8 s8:=I8.pins_of fun p hp=>absurd hp (by simp)
        have I10 : Inv (cxComp X N scope Cc fp s H) [] σ6 H8 { s8 with heap:=s8.heap.update Dd (Obj.mapSeq (·.push y)) } :=
          I9.turned (it:=Dd) (t':=s8.toks) (fun b o hb e=>(Heap.get?_update_other s8.heap _ (Ne.symm hb)).trans e) b4 hDC (.inr hDs) cellD fun p hp=>absurd (show p ∈ ([] : List (Addr × Obj)) from hp) (by simp)
        exact ⟨k',hk,i + 1,acc++[v8],its++[y],_,σ6,H8,I10,T.keep _ _ _ b1 fun b hb o e=>(Heap.get?_update_other s8.heap _ (Ne.symm (nfp b hb))).trans e,b2,w8,rv.append (.cons r8 .nil),q,b4⟩
  exact codeAny_compStart_list (loop _ rfl) (T.self _ 0 _ _ _ (T.keep _ _ _ st0 fun b _ o e=>old b o e) (loop _ rfl))
noncomputable def tComp (src : List (Option Nat)) (wi : TI) (g : TG) (tt : TT) (te : TE) : TE:=fun σ H Q=>wi σ H fun J H1=>∃ W : Nat→Nat→List V→L2.St→Hp→Prop,(∃ k,W 0 k [] (innerS src σ) H1) ∧
  ∀ i k acc σ' H',W i k acc σ' H'→(J.stop i H'∧acc.length ≤ sizeLine∧∀ p,H' p = none→Q (.ref p) (upd H' p (.lst acc)))∨(J.go i H'∧acc.length < sizeLine∧∀ x H2,J.yld i H' x H2→g x σ' H2 fun σ2 H3=>tt σ2 H3 fun b H4 =>
    if b = true then te σ2 H4 fun v H5=>∃ k',k' < k∧W (i + 1) k' (acc++[v]) σ2 H5 else ∃ k',k' < k∧W (i + 1) k' acc σ2 H4)
theorem pe_comp {X : Cx} {elt tg iter : Expr} {ifs : List Expr} {scope : Scope} {pos : Pos} {N : List Str} {src : List (Option Nat)} {wi : TI} {g : TG} {tt : TT} {te : TE} (hc : X.calm = true) (S : CompScope X N src scope) (hi : PI X tg iter wi)
    (hg : ∀ C fp s H,PG (cxComp X N scope C fp s H) tg g) (ht : ∀ C fp s H,TestR (cxComp X N scope C fp s H) ifs tt) (he : ∀ C fp s H,PE (cxComp X N scope C fp s H) elt te)
    (hs : ∀ x,foldedSetIterable iter X.env x = pure x:=by intro _; rfl) : PE X (.ListComp elt [⟨tg,iter,ifs,0⟩] scope pos) (tComp src wi g tt te):=by
  intro pins s σ H Q I h
  rw [eval_ListComp]
  refine wpAny_comprehension_free (use:=none) rfl hs (comp_clos S I) S.kind S.loc (thn (hi pins s σ H _ I h) fun v s1 h1=>thn h1 fun itv s2 h2=>?_)
  obtain ⟨it,fp,tn,J,H2,e,I2,T,st2,f2,W,w0,turn⟩:=h2
  subst e
  refine comp_block hc I2 T st2 f2 S (fun C=>hg C fp s2 H2) (fun C=>ht C fp s2 H2) (fun C=>he C fp s2 H2) W w0 turn ?_
  intro D C s' H' acc fin nD I' fC hm
  obtain ⟨m',hn⟩:=hm
  refine ⟨m',hn,fun h' sb=>⟨.ref D,upd H' D (.lst acc),?_,rfl,fin D nD⟩⟩
  obtain ⟨c0,c1,c2,c3,c4,c5⟩:=fC
  exact I'.turned (t':=s'.toks) (fun b o hb e=>(sb.2 b hb).trans e) c0 c1 c3 c4 c5
end MS
end
section
set_option linter.all false
set_option Elab.async false
set_option maxRecDepth 100000
set_option maxHeartbeats 4000000
namespace MS
open PySem PySem.Spec PyProof.Rows L2
inductive RK where
  | lst | tup
noncomputable def RK.It : RK→Heap→Addr→Addr→Nat→Prop
  | .lst,h,it,a,i=>h.IsListIter it a i
  | .tup,h,it,a,i=>h.IsTupleIter it a i
noncomputable def RK.Sq : RK→Heap→Addr→Array Value→Prop
  | .lst,h,a,xs=>h.IsList a xs
  | .tup,h,a,xs=>h.IsTuple a xs
theorem RK.It.on {k : RK} {h h' : Heap} {it a : Addr} {i : Nat} (x : k.It h it a i) (e : ∀ o,h.get? it = some o→h'.get? it = some o) : k.It h' it a i:=by
  cases k with
  | lst=>exact Heap.IsListIter.at x e
  | tup=>obtain ⟨o,ho,r⟩:=x; exact ⟨o,e o ho,r⟩
theorem RK.Sq.on {k : RK} {h h' : Heap} {a : Addr} {xs : Array Value} (x : k.Sq h a xs) (e : ∀ o,h.get? a = some o→h'.get? a = some o) : k.Sq h' a xs:=by
  cases k with
  | lst=>exact Heap.IsList.at x e
  | tup=>obtain ⟨o,ho,r⟩:=x; exact ⟨o,e o ho,r⟩
theorem RK.It.obj {k : RK} {h : Heap} {it a : Addr} {i : Nat} (x : k.It h it a i) : ∃ o,h.get? it = some o∧∀ v,o.data ≠ .cell v:=by
  cases k with
  | lst=>obtain ⟨o,ho,_,d⟩:=x; exact ⟨o,ho,fun v z=>by rw [d] at z; cases z⟩
  | tup=>obtain ⟨o,ho,_,d⟩:=x; exact ⟨o,ho,fun v z=>by rw [d] at z; cases z⟩
section
variable {prog : Program} {w : World} {A : Around} {E : Value→Shared→Prop} {s : Shared}
end
section
variable {prog : Program} {w : World} {A : Around} {E : Value→Shared→Prop} {s : Shared}
end
noncomputable def RK.itO (k : RK) (a : Addr) : Obj:=match k with
  | .lst=>{ cls:=.type "list_iterator",data:=.fields #[.ref a,.int 0 0] }
  | .tup=>{ cls:=.type "tuple_iterator",data:=.fields #[.ref a,.int 0 0] }
noncomputable def RK.sq (k : RK) (K : PySem.W.Frag) (H : Hp) (a : Addr) (xs : List V) : Prop:=match k with
  | .lst=>SqL K H a xs
  | .tup=>SqT K H a xs
section
variable {X : Cx} {pins : List (Addr × Obj)} {σ : L2.St} {H : Hp} {s : Shared}
end
end MS
end
section
set_option linter.all false
set_option Elab.async false
set_option maxRecDepth 100000
set_option maxHeartbeats 4000000
namespace MS
open PySem PySem.Spec PyProof.Rows L2
section
variable {X : Cx}
theorem strs_of {K : PySem.W.Frag} {m : List Addr} {H : Hp} : ∀ {ds : List M.D} {xs : List V} {us : List Value} {ts : List Str},M.asStrs ds = some ts→IsDs K m H ds xs→Vals xs us→∃ l : List (Str × Tok),us = strValues l∧l.map (·.1) = ts
  | [],xs,us,ts,e,ix,r=>by
    cases e
    rw [ix.nil] at r
    cases r
    exact ⟨[],rfl,rfl⟩
  | .str z::ds,xs,us,ts,e,ix,r=>by
    have e : (M.asStrs ds).map (z::·) = some ts:=e
    obtain ⟨ts',e1,e2⟩:=mapD e
    subst e2
    obtain ⟨x,xr,rfl,i1,i2⟩:=ix.cons
    have hx:=i1.str
    subst hx
    cases r with
    | cons r1 r2 =>
      obtain ⟨t,rfl⟩:=r1
      obtain ⟨l,rfl,rfl⟩:=strs_of e1 i2 r2
      exact ⟨(z,t)::l,rfl,rfl⟩
  | .non::ds,xs,us,ts,e,ix,r=>by cases e
  | .bl b::ds,xs,us,ts,e,ix,r=>by cases e
  | .int b::ds,xs,us,ts,e,ix,r=>by cases e
  | .tup b::ds,xs,us,ts,e,ix,r=>by cases e
  | .loc b::ds,xs,us,ts,e,ix,r=>by cases e
  | .lst b::ds,xs,us,ts,e,ix,r=>by cases e
theorem mt_joinD : MtM X "str.join" (fun x xs H Q=>∃ m st a ds d st',Rel X.K m st H∧MS.IsD X.K m H a x∧IsDs X.K m H ds xs∧M.mJoin st a ds = some (d,st')∧Post X.K m H d st' Q):=by
  intro pins s σ H x xs v us Q I rx rs h
  obtain ⟨m,st,a,ds,d,st',R0,i1,i2,e,q⟩:=h
  unfold M.mJoin at e
  split at e
  · rename_i z l
    obtain ⟨es,e1,e⟩:=bindO e
    obtain ⟨ts,e2,e⟩:=bindO e
    split at e
    · rename_i hl
      cases e
      have hx:=i1.str
      subst hx
      obtain ⟨y,rfl,iy⟩:=i2.one
      obtain ⟨p,ys,_,rfl,hq,ix⟩:=R0.seq e1 iy
      obtain ⟨t,rfl⟩:=rx
      cases rs with
      | cons r rr =>
        cases rr
        cases r
        obtain ⟨its,rv,pl,hz⟩:=I.list hq
        obtain ⟨w,rfl,rfl⟩:=strs_of e2 ix rv
        have hok : JoinOk z (w.map (·.1)) = true:=by
          unfold JoinOk
          rw [PySem.StrLaws.joinTotal,Bool.not_eq_true']
          unfold Builtin.Str.tooLong
          rw [decide_eq_false_iff_not]
          have l2:=lim_eq
          omega
        refine SC.join pl.isList rfl hok fun t' k=>⟨.str _,H,I.tok k,⟨t',rfl⟩,?_⟩
        have ej : Txt.join z (w.map (·.1)) = Str.join z (w.map (·.1)):=PySem.StrLaws.glued_eq_join _ _
        rw [ej]
        exact q.here R0 (mkStr _)
    · cases e
  · cases e
theorem call_intD : CallR X (.type "int") (rC X.K M.bInt):=by
  intro pins s σ H xs us Q I r h
  obtain ⟨m,st,ds,d,st',R0,ix,e,q⟩:=h
  unfold M.bInt at e
  split at e
  · rename_i z
    split at e
    · rename_i hz
      cases e
      obtain ⟨x,rfl,i⟩:=ix.one
      have hx:=i.str
      subst hx
      cases r with
      | cons r rr =>
        cases rr
        obtain ⟨t,rfl⟩:=r
        simp only [Bool.and_eq_true,decide_eq_true_eq] at hz
        obtain ⟨⟨h1,h2⟩,h3⟩:=hz
        have hd : NumText.AllDigits z.cps.toList:=fun c hc=>by
          have:=List.all_eq_true.mp h2 c hc
          unfold M.isFig at this
          simpa using this
        have hne : z.cps.toList ≠ []:=fun e=>by rw [e] at h1; cases h1
        exact PySem.W.KIN.call_text (PySem.intText_digits hd hne (by omega)) h3 ⟨.int _,H,I.tok _,⟨_,rfl⟩,q.here R0 (mkInt _)⟩
    · cases e
  · rename_i i
    cases e
    obtain ⟨x,rfl,j⟩:=ix.one
    exact call_int1 pins s σ H _ us Q I r (.inl ⟨i,by rw [j.int],q.here R0 (mkInt _)⟩)
  · cases e
theorem call_strD : CallR X (.type "str") (rC X.K M.bStr):=by
  intro pins s σ H xs us Q I r h
  obtain ⟨m,st,ds,d,st',R0,ix,e,q⟩:=h
  unfold M.bStr at e
  split at e
  · rename_i i
    split at e
    · rename_i hi
      cases e
      obtain ⟨x,rfl,j⟩:=ix.one
      exact call_str_int pins s σ H _ us Q I r ⟨i,by rw [j.int],hi,q.here R0 (mkStr _)⟩
    · cases e
  · rename_i z
    cases e
    obtain ⟨x,rfl,j⟩:=ix.one
    have hx:=j.str
    subst hx
    cases r with
    | cons r1 r2 =>
      cases r2
      obtain ⟨t,rfl⟩:=r1
      exact P.str_of_str ⟨.str z,H,I,⟨t,rfl⟩,q.here R0 (mkStr _)⟩
  · cases e
end
end MS
end
section
set_option linter.all false
set_option Elab.async false
set_option maxRecDepth 100000
set_option maxHeartbeats 4000000
namespace MS
open PySem PySem.Spec PyProof.Rows L2
inductive EntOk (prm : Params) : List DictEntry→List Str→List Value→Prop
  | nil : EntOk prm [] [] []
  | cons {k : Str} {t : Tok} {u : Value} {es : List DictEntry} {ks : List Str} {us : List Value} (h : EntOk prm es ks us) : EntOk prm (⟨PyData.keyHash prm k,.str k t,u⟩::es) (k::ks) (u::us)
structure FDict (prm : Params) (K : PySem.W.Frag) (a : Addr) (ks : List Str) (ds : List M.D) : Prop where
  ex : ∃ (us : List Value) (vs : List V) (es : Array DictEntry) (ep : Nat),K.lookup a = some { cls:=.type "dict",data:=.dict es ep }∧EntOk prm es.toList ks us∧Vals vs us∧∀ m H,IsDs K m H ds vs
  nd : ks.Nodup
  ne : (a == sysModules) = false
noncomputable def kzip {α : Type} (ks : List Str) (us : List α) : List (Key × α):=(ks.map fun k=>(Sum.inr k : Key)).zip us
theorem ent_keys {P : Program} {w : World} : ∀ {es : List DictEntry} {ks : List Str} {us : List Value},EntOk w.params es ks us→(∀ e ∈ es,∃ k,(mixKind P w).is k e.key = true∧e.hash = (mixKind P w).hash k)∧PySem.Pairs (mixKind P w) es (kzip ks us)∧(kzip ks us).map (·.1) = ks.map fun k=>(Sum.inr k : Key)
  | _,_,_,.nil=>⟨(fun e h=>nomatch h),.nil,rfl⟩
  | _,_,_,.cons (k:=k) (t:=t) (u:=u) h=>by
    obtain ⟨h1,h2,h3⟩:=ent_keys (P:=P) h
    refine ⟨fun e he=>?_,?_,?_⟩
    · rcases List.mem_cons.mp he with q | q
      · subst q
        exact ⟨.inr k,mixKind_str P w k t,rfl⟩
      · exact h1 e q
    · exact .cons (mixKind_str P w k t) rfl h2
    · exact congrArg (List.cons (Sum.inr k : Key)) h3
theorem fd_dict {X : Cx} {pins : List (Addr × Obj)} {σ : L2.St} {H : Hp} {s : Shared} {a : Addr} {ks : List Str} {ds : List M.D} (I : Inv X pins σ H s) (h : FDict X.w.params X.K a ks ds) :
    ∃ (us : List Value) (vs : List V),s.heap.DictOf (mixKind X.prog X.w) a (kzip ks us)∧Vals vs us∧(∀ m H,IsDs X.K m H ds vs)∧ks.length = us.length:=by
  obtain ⟨us,vs,es,ep,e1,e2,e3,e4⟩:=h.ex
  obtain ⟨h1,h2,h3⟩:=ent_keys (P:=X.prog) (w:=X.w) e2
  refine ⟨us,vs,⟨_,es,ep,I.kIn a _ e1,⟨rfl,rfl,rfl⟩,rfl,fun e he=>h1 e (by simpa using he),h2,?_⟩,e3,e4,?_⟩
  · rw [h3]
    exact (List.pairwise_map.mpr (h.nd.imp fun hne hq=>hne (Sum.inr.inj hq)))
  · have : ∀ {es : List DictEntry} {ks : List Str} {us : List Value},EntOk X.w.params es ks us→ks.length = us.length:=by
      intro es ks us q
      induction q with
      | nil=>rfl
      | cons _ ih=>rw [List.length_cons,List.length_cons,ih]
    exact this e2
theorem kz_at {α : Type} (z : Str) : ∀ (ks : List Str) (us : List α),((kzip ks us).find? fun p=>decide (p.1 = Sum.inr z)).map (·.2) = ((ks.zip us).find? fun q=>q.1 == z).map (·.2)
  | [],us=>rfl
  | k::ks,[]=>rfl
  | k::ks,u::us=>by
    have ih:=kz_at z ks us
    show ((((Sum.inr k : Key),u)::kzip ks us).find? fun p=>decide (p.1 = Sum.inr z)).map (·.2) = (((k,u)::ks.zip us).find? fun q=>q.1 == z).map (·.2)
    rw [List.find?_cons,List.find?_cons]
    by_cases h : k = z
    · have h1 : decide ((Sum.inr k : Key) = Sum.inr z) = true:=by rw [h]; simp
      have h2 : (k == z) = true:=by rw [h]; simp
      simp only [h1,h2]
      rfl
    · have h1 : decide ((Sum.inr k : Key) = Sum.inr z) = false:=decide_eq_false fun q=>h (Sum.inr.inj q)
      have h2 : (k == z) = false:=by simpa using h
      simp only [h1,h2]
      exact ih
theorem gz_get {K : PySem.W.Frag} (z : Str) : ∀ {ks : List Str} {ds : List M.D} {vs : List V} {us : List Value},(∀ m H,IsDs K m H ds vs)→Vals vs us→ks.length = us.length →
    (((ks.zip ds).find? fun q=>q.1 == z) = none∧((ks.zip us).find? fun q=>q.1 == z) = none∧ks.contains z = false)∨∃ k d v u,((ks.zip ds).find? fun q=>q.1 == z) = some (k,d)∧((ks.zip us).find? fun q=>q.1 == z) = some (k,u)∧(∀ m H,MS.IsD K m H d v)∧RelV v u∧ks.contains z = true
  | [],ds,vs,us,i,r,h=>.inl ⟨rfl,rfl,rfl⟩
  | k::ks,[],vs,us,i,r,h=>by
    rw [(i [] fun _=>none).nil] at r
    cases r
    cases h
  | k::ks,d::ds,vs,us,i,r,h=>by
    obtain ⟨v,vr,e,_,_⟩:=(i [] fun _=>none).cons
    subst e
    have i1 : ∀ m H,MS.IsD K m H d v:=fun m H=>by
      obtain ⟨v',vr',e,q,_⟩:=(i m H).cons
      cases e
      exact q
    have i2 : ∀ m H,IsDs K m H ds vr:=fun m H=>by
      obtain ⟨v',vr',e,_,q⟩:=(i m H).cons
      cases e
      exact q
    cases r with
    | cons r1 r2 =>
      rename_i u us
      by_cases hk : k = z
      · subst hk
        refine .inr ⟨k,d,v,u,by simp,by simp,i1,r1,by simp⟩
      · have h2 : (k == z) = false:=by simpa using hk
        have h3 : (z == k) = false:=by simpa using Ne.symm hk
        have ih:=gz_get z (ks:=ks) i2 r2 (by simpa using h)
        rw [List.zip_cons_cons,List.zip_cons_cons,List.find?_cons,List.find?_cons,List.contains_cons]
        simp only [h2,h3,Bool.false_or]
        exact ih
section
variable {X : Cx} {b : Expr} {tb : TE} {pos p0 : Pos} {x : Str}
theorem pe_gidx {a : Addr} {ks : List Str} {ds : List M.D} (hg : Gl X x) (hm : X.mg x = some (.ref a)) (hF : FDict X.w.params X.K a ks ds) (hd : (x == ("__debug__" : Str)) = false) (hb : PE X b tb) (hs : NoSl b) :
    PE X (.Subscript (.Name x p0) b pos) (fun σ H Q=>tb σ H fun y H2=>∃ z d,y = .str z∧(∃ k,((ks.zip ds).find? fun q=>q.1 == z) = some (k,d))∧∀ v,(∀ m,MS.IsD X.K m H2 d v)→Q v H2):=by
  intro pins s σ H Q I h
  refine subD_of PySem.F.slot_dict_getitem.lookup hs (thn (pe_glob hg hm (show RelV (.ref a) (.ref a) from rfl) hd pins s σ H (fun x H1=>x = .ref a∧tb σ H1 _) I ⟨rfl,h⟩) fun u s1 ⟨x',H1,I1,rx,ex,q1⟩=>?_)
  subst ex
  cases rx
  refine thn (hb pins s1 σ H1 _ I1 q1) fun iv s2 ⟨y,H2,I2,ry,z,d,ey,⟨k,ek⟩,q2⟩=>?_
  subst ey
  obtain ⟨us,vs,dd,rv,hI,hl⟩:=fd_dict I2 hF
  refine ⟨dd.typeIs,?_⟩
  rcases gz_get z hI rv hl with ⟨n1,_,_⟩ | ⟨k',d',v',u',f1,f2,f3,f4,_⟩
  · rw [n1] at ek; cases ek
  · rw [f1] at ek
    cases ek
    have hw : valueAt (kzip ks us) (Sum.inr z) = some u':=by
      unfold valueAt
      rw [kz_at,f2]
      rfl
    exact wpAny_getItem_of (kV_is (k:=.inr z) ry) dd.mapOf hw ⟨v',H2,I2.tok _,f4,q2 v' fun m=>f3 m H2⟩
theorem gd_has {X : Cx} {pins : List (Addr × Obj)} {σ : L2.St} {H : Hp} {s : Shared} {a : Addr} {ks : List Str} {ds : List M.D} (I : Inv X pins σ H s) (hF : FDict X.w.params X.K a ks ds) (z : Str) :
    ∃ us,s.heap.DictOf (mixKind X.prog X.w) a (kzip ks us)∧(valueAt (kzip ks us) (Sum.inr z)).isSome = ks.contains z:=by
  obtain ⟨us,vs,dd,rv,hI,hl⟩:=fd_dict I hF
  refine ⟨us,dd,?_⟩
  unfold valueAt
  rw [kz_at]
  rcases gz_get z hI rv hl with ⟨_,n2,n3⟩ | ⟨k',d',v',u',f1,f2,f3,f4,f5⟩
  · rw [n2,n3]; rfl
  · rw [f2,f5]; rfl
theorem pc_gin {a : Addr} {ks : List Str} {ds : List M.D} (neg : Bool) (hg : Gl X x) (hm : X.mg x = some (.ref a)) (hF : FDict X.w.params X.K a ks ds) (hd : (x == ("__debug__" : Str)) = false) (hb : PE X b tb) :
    PC X (if neg then .NotIn else .In) b (.Name x p0) (fun σ H Q=>tb σ H fun y H2=>∃ z,y = .str z∧Q (.bl (ks.contains z != neg)) H2):=by
  intro pins s σ H Q I h
  refine thn (hb pins s σ H _ I h) fun iv s1 ⟨y,H1,I1,ry,z,ey,q1⟩=>?_
  subst ey
  refine thn (pe_glob hg hm (show RelV (.ref a) (.ref a) from rfl) hd pins s1 σ H1 (fun x H2=>x = .ref a∧Q (.bl (ks.contains z != neg)) H2) I1 ⟨rfl,q1⟩) fun u s2 ⟨x',H2,I2,rx,ex,q2⟩=>?_
  subst ex
  cases rx
  obtain ⟨us,dd,hs⟩:=gd_has I2 hF z
  cases neg with
  | false =>
    refine wpAny_in_of (kV_is (k:=.inr z) ry) hF.ne dd.mapOf ?_
    rw [hs]
    refine ⟨.bl _,H2,I2.tok _,rfl,?_⟩
    simpa using q2
  | true =>
    refine wpAny_notIn_of (kV_is (k:=.inr z) ry) hF.ne dd.mapOf ?_
    rw [hs]
    refine ⟨.bl _,H2,I2.tok _,rfl,?_⟩
    simpa using q2
open M (D Cell Store Sl)
theorem pc_ginD {a : Addr} {ks : List Str} {ds : List D} {fb : Sl→Store→Option (D × Store)} (neg : Bool) (hg : Gl X x) (hm : X.mg x = some (.ref a)) (hF : FDict X.w.params X.K a ks ds) (hd : (x == ("__debug__" : Str)) = false) (hb : PE X b (tD X.K fb)) :
    PC X (if neg then .NotIn else .In) b (.Name x p0) (tD X.K fun τ st=>(fb τ st).bind fun p=>match p.1 with
      | .str z=>some (.bl (ks.contains z != neg),p.2)
      | _=>none):=by
  intro pins s σ H Q I h
  refine pc_gin neg hg hm hF hd hb pins s σ H Q I ?_
  obtain ⟨m,st,τ,d,st',R0,S0,e,q⟩:=h
  obtain ⟨d1,s1,e1,e⟩:=bindD e
  refine ⟨m,st,τ,d1,s1,R0,S0,e1,fun y m1 H1 b1 t1 R1 i1=>?_⟩
  cases d1 with
  | str z =>
    cases e
    exact ⟨z,i1.str,q _ m1 H1 b1 t1 R1 (mkBl _)⟩
  | _=>cases e
theorem pe_gidxD {a : Addr} {ks : List Str} {ds : List D} {fb : Sl→Store→Option (D × Store)} (hg : Gl X x) (hm : X.mg x = some (.ref a)) (hF : FDict X.w.params X.K a ks ds) (hd : (x == ("__debug__" : Str)) = false) (hb : PE X b (tD X.K fb)) (hs : NoSl b) :
    PE X (.Subscript (.Name x p0) b pos) (tD X.K fun τ st=>(fb τ st).bind fun p=>match p.1 with
      | .str z=>((ks.zip ds).find? fun q=>q.1 == z).map fun q=>(q.2,p.2)
      | _=>none):=by
  refine (pe_gidx hg hm hF hd hb hs).imp fun σ H Q h=>?_
  obtain ⟨m,st,τ,d,st',R0,S0,e,q⟩:=h
  obtain ⟨d1,s1,e1,e⟩:=bindD e
  refine ⟨m,st,τ,d1,s1,R0,S0,e1,fun y m1 H1 b1 t1 R1 i1=>?_⟩
  cases d1 with
  | str z =>
    obtain ⟨w,e2,e3⟩:=mapD e
    cases e3
    exact ⟨z,w.2,i1.str,⟨w.1,e2⟩,fun v hv=>q _ m1 H1 b1 t1 R1 (hv m1)⟩
  | _=>cases e
theorem dget_of {K : PySem.W.Frag} {m : List Addr} {H : Hp} {kvs : List (D × D)} {xs : List (Key × V)} {kd : D} {y : V} {a : Addr} (hk : M.isKey kd = true) (hkv : IsKV K m H kvs xs) (hH : H a = some (.dK xs)) (iy : MS.IsD K m H kd y) :
    ∃ o,DGet H a y o∧((M.dget kvs kd = none∧o = none)∨∃ d v,M.dget kvs kd = some d∧o = some v∧MS.IsD K m H d v):=by
  obtain ⟨k,hk1⟩:=key_of hk
  have hy:=key_V hk1 iy
  subst hy
  refine ⟨valV xs k,DGet.k hH,?_⟩
  rcases hkv.get hk1 with ⟨h1,h2⟩ | ⟨d,v,h1,h2,h3⟩
  · exact .inl ⟨h1,h2⟩
  · exact .inr ⟨d,v,h1,h2,h3⟩
theorem pc_dinD {a : Expr} {fa fb : Sl→Store→Option (D × Store)} (hu : X.A.units + 1 < cLine) (neg : Bool) (ha : PE X a (tD X.K fa)) (hb : PE X b (tD X.K fb)) :
    PC X (if neg then .NotIn else .In) a b (tD X.K fun τ st=>(fa τ st).bind fun p=>(fb τ p.2).bind fun q=>match q.1 with
      | .loc l=>(M.dicAt q.2 l).bind fun kvs=>if M.isKey p.1 then some (.bl ((M.dget kvs p.1).isSome != neg),q.2) else none
      | _=>none):=by
  have key : ∀ {σ : L2.St} {H : Hp} {Q : VK},tD X.K (fun τ st=>(fa τ st).bind fun p=>(fb τ p.2).bind fun q=>match q.1 with
      | .loc l=>(M.dicAt q.2 l).bind fun kvs=>if M.isKey p.1 then some (.bl ((M.dget kvs p.1).isSome != neg),q.2) else none
      | _=>none) σ H Q→tD X.K fa σ H fun y H1=>tD X.K fb σ H1 fun x H2=>∃ a o,x = .ref a∧DGet H2 a y o∧Q (.bl (o.isSome != neg)) H2:=by
    intro σ H Q h
    obtain ⟨m,st,τ,d,st',R0,S0,e,q⟩:=h
    obtain ⟨d1,s1,e1,e⟩:=bindD e
    obtain ⟨d2,s2,e2,e⟩:=bindD e
    refine ⟨m,st,τ,d1,s1,R0,S0,e1,fun y m1 H1 b1 t1 R1 i1=>⟨m1,s1,τ,d2,s2,R1,S0.mono b1 t1,e2,fun z m2 H2 b2 t2 R2 i2=>?_⟩⟩
    cases d2 with
    | loc l =>
      obtain ⟨kvs,e3,e⟩:=bindO e
      split at e
      · rename_i hk
        cases e
        obtain ⟨a',xs,_,rfl,hH,hkv,_⟩:=R2.dict e3 i2
        obtain ⟨o,g,hg⟩:=dget_of hk hkv hH (isD_mono b2 t2 _ _ i1)
        refine ⟨a',o,rfl,g,?_⟩
        have e4 : o.isSome = (M.dget kvs d1).isSome:=by
          rcases hg with ⟨h1,h2⟩ | ⟨d,v,h1,h2,_⟩
          · rw [h1,h2]; rfl
          · rw [h1,h2]; rfl
        rw [e4]
        exact q _ m2 H2 (b1.trans b2) (t1.trans t2) R2 (mkBl _)
      · cases e
    | _=>cases e
  cases neg with
  | false =>
    intro pins s σ H Q I h
    refine pc_din hu ha hb pins s σ H Q I ?_
    have:=key h
    simpa only [tDIn,Bool.bne_false] using this
  | true =>
    intro pins s σ H Q I h
    refine pc_dnotin hu ha hb pins s σ H Q I ?_
    have:=key h
    simpa only [tDNotIn,Bool.bne_true] using this
theorem pe_dgtD {a : Expr} {apos cpos : Pos} {fa fb : Sl→Store→Option (D × Store)} (hu : X.A.units + 1 < cLine) (ha : PE X a (tD X.K fa)) (hb : PE X b (tD X.K fb)) (hm : M1 X a "get" apos b cpos) :
    PE X (.Call (.Attribute a "get" apos) [b] [] cpos) (tD X.K fun τ st=>(fa τ st).bind fun p=>match p.1 with
      | .loc l=>(M.dicAt p.2 l).bind fun _=>(fb τ p.2).bind fun q=>(M.dicAt q.2 l).bind fun kvs=>if M.isKey q.1 then some ((M.dget kvs q.1).getD .non,q.2) else none
      | _=>none):=by
  refine (pe_dget1 hu ha hb hm).imp fun σ H Q h=>?_
  obtain ⟨m,st,τ,d,st',R0,S0,e,q⟩:=h
  obtain ⟨d1,s1,e1,e⟩:=bindD e
  refine ⟨m,st,τ,d1,s1,R0,S0,e1,fun y m1 H1 b1 t1 R1 i1=>?_⟩
  cases d1 with
  | loc l =>
    obtain ⟨kv0,e0,e⟩:=bindO e
    obtain ⟨d2,s2,e2,e⟩:=bindD e
    obtain ⟨kvs,e3,e⟩:=bindO e
    split at e
    · rename_i hk
      cases e
      obtain ⟨a0,xs0,ha0,rfl,hH0,_,_⟩:=R1.dict e0 i1
      refine ⟨a0,rfl,.inl ⟨_,.inl hH0⟩,m1,s1,τ,d2,s2,R1,S0.mono b1 t1,e2,fun z m2 H2 b2 t2 R2 i2=>?_⟩
      obtain ⟨a',xs,_,ea,hH,hkv,_⟩:=R2.dict e3 (isD_mono b2 t2 _ _ i1)
      cases ea
      obtain ⟨o,g,hg⟩:=dget_of hk hkv hH i2
      refine ⟨o,g,?_⟩
      rcases hg with ⟨h1,h2⟩ | ⟨d,v,h1,h2,h3⟩
      · rw [h1] at q
        subst h2
        exact q _ m2 H2 (b1.trans b2) (t1.trans t2) R2 mkNon
      · rw [h1] at q
        subst h2
        exact q _ m2 H2 (b1.trans b2) (t1.trans t2) R2 h3
    · cases e
  | _=>cases e
end
end MS
end
section
set_option linter.all false
set_option Elab.async false
set_option maxRecDepth 100000
set_option maxHeartbeats 4000000
namespace MS
open PySem PySem.Spec PyProof.Rows L2
noncomputable def joinL (c : Nat) : List (List Nat)→List Nat
  | []=>[]
  | [p]=>p
  | p::q::r=>p++c::joinL c (q::r)
theorem join_toL (c : Nat) : ∀ ts : List Str,(Str.join ⟨#[c]⟩ ts).cps.toList = joinL c (ts.map (·.cps.toList))
  | []=>rfl
  | [t]=>rfl
  | t::u::r=>by
    have ih:=join_toL c (u::r)
    show (t++⟨#[c]⟩++Str.join ⟨#[c]⟩ (u::r)).cps.toList = _
    show ((t.cps++#[c])++(Str.join ⟨#[c]⟩ (u::r)).cps).toList = t.cps.toList++c::joinL c ((u::r).map (·.cps.toList))
    rw [Array.toList_append,Array.toList_append,ih]
    simp
theorem first_cut {c : Nat} : ∀ {p q a b : List Nat},c ∉ p→c ∉ q→p++c::a = q++c::b→p = q∧a = b
  | [],[],a,b,_,_,e=>by simpa using e
  | [],y::q,a,b,_,hq,e=>by
    have : c = y:=by simpa using congrArg List.head? e
    exact absurd (by rw [this]; exact List.mem_cons_self) hq
  | x::p,[],a,b,hp,_,e=>by
    have : x = c:=by simpa using congrArg List.head? e
    exact absurd (by rw [this]; exact List.mem_cons_self) hp
  | x::p,y::q,a,b,hp,hq,e=>by
    rw [List.cons_append,List.cons_append] at e
    injection e with e1 e2
    obtain ⟨h1,h2⟩:=first_cut (fun z=>hp (List.mem_cons_of_mem _ z)) (fun z=>hq (List.mem_cons_of_mem _ z)) e2
    exact ⟨by rw [e1,h1],h2⟩
theorem uniq {c : Nat} : ∀ {ps qs : List (List Nat)},ps ≠ []→qs ≠ []→(∀ p ∈ ps,c ∉ p)→(∀ q ∈ qs,c ∉ q)→joinL c ps = joinL c qs→ps = qs
  | [],qs,h,_,_,_,_=>absurd rfl h
  | ps,[],_,h,_,_,_=>absurd rfl h
  | [p],[q],_,_,_,_,e=>by rw [show p = q from e]
  | [p],q::q2::qr,_,_,hp,_,e=>by
    have e : p = q++c::joinL c (q2::qr):=e
    exact absurd (by rw [e]; simp) (hp p List.mem_cons_self)
  | p::p2::pr,[q],_,_,_,hq,e=>by
    have e : p++c::joinL c (p2::pr) = q:=e
    exact absurd (by rw [← e]; simp) (hq q List.mem_cons_self)
  | p::p2::pr,q::q2::qr,_,_,hp,hq,e=>by
    have e : p++c::joinL c (p2::pr) = q++c::joinL c (q2::qr):=e
    obtain ⟨h1,h2⟩:=first_cut (hp p List.mem_cons_self) (hq q List.mem_cons_self) e
    rw [h1,uniq (List.cons_ne_nil _ _) (List.cons_ne_nil _ _) (fun z hz=>hp z (List.mem_cons_of_mem _ hz)) (fun z hz=>hq z (List.mem_cons_of_mem _ hz)) h2]
theorem splitC_spec (c : Nat) : ∀ cs : List Nat,M.splitC c cs ≠ []∧(∀ p ∈ M.splitC c cs,c ∉ p)∧joinL c (M.splitC c cs) = cs∧(M.splitC c cs).length ≤ cs.length + 1
  | []=>⟨by simp [M.splitC],by simp [M.splitC],rfl,by simp [M.splitC]⟩
  | x::r=>by
    obtain ⟨h1,h2,h3,h4⟩:=splitC_spec c r
    unfold M.splitC
    by_cases hx : x = c
    · rw [if_pos hx]
      refine ⟨by simp,?_,?_,by simp only [List.length_cons]; omega⟩
      · intro p hp
        rcases List.mem_cons.mp hp with q | q
        · rw [q]; simp
        · exact h2 p q
      · cases hs : M.splitC c r with
        | nil=>exact absurd hs h1
        | cons p ps =>
          rw [hs] at h3
          show []++c::joinL c (p::ps) = _
          rw [h3,hx]
          rfl
    · rw [if_neg hx]
      cases hs : M.splitC c r with
      | nil=>exact absurd hs h1
      | cons p ps =>
        rw [hs] at h2 h3 h4
        refine ⟨by simp,?_,?_,by simp only [List.length_cons] at h4 ⊢; omega⟩
        · intro q hq
          rcases List.mem_cons.mp hq with z | z
          · rw [z]
            intro hm
            rcases List.mem_cons.mp hm with y | y
            · exact hx y.symm
            · exact h2 p List.mem_cons_self y
          · exact h2 q (List.mem_cons_of_mem _ z)
        · cases ps with
          | nil=>show x::p = x::r; rw [show p = r from h3]
          | cons p2 pr =>
            have h3 : p++c::joinL c (p2::pr) = r:=h3
            show (x::p)++c::joinL c (p2::pr) = x::r
            rw [List.cons_append,h3]
theorem split_ne (z y : Str) : Txt.split z y ≠ []:=by
  unfold Txt.split
  split
  · simp
  · split
    · simp
    · intro h
      unfold Builtin.Str.partsBetween at h
      simp at h
theorem split_eq (z : Str) (c : Nat) : Txt.split z ⟨#[c]⟩ = (M.splitC c z.cps.toList).map fun p=>(⟨p.toArray⟩ : Str):=by
  obtain ⟨h1,h2,h3,_⟩:=splitC_spec c z.cps.toList
  have e1:=congrArg (fun t : Str=>t.cps.toList) (PySem.StrLaws.join_split z ⟨#[c]⟩)
  rw [join_toL] at e1
  have e2 : (Txt.split z ⟨#[c]⟩).map (·.cps.toList) = M.splitC c z.cps.toList:=by
    refine uniq (by simpa using split_ne z ⟨#[c]⟩) h1 (fun p hp=>?_) h2 (e1.trans h3.symm)
    obtain ⟨t,ht,rfl⟩:=List.mem_map.mp hp
    exact PySem.StrLaws.split_free z c t ht
  rw [← e2,List.map_map]
  have : ((fun p : List Nat=>(⟨p.toArray⟩ : Str)) ∘ fun t : Str=>t.cps.toList) = id:=funext fun t=>by
    obtain ⟨a⟩:=t
    simp
  rw [this,List.map_id]
section
variable {prog : Program} {w : World} {A : Around} {E : Value→Shared→Prop} {s : Shared} {x : Str} {t : Tok} {Q : Value→Shared→Prop}
theorem split_new {y : Str} {u : Tok} (hy : (y.length == 0) = false) (hz : x.length ≤ sizeLine) (hz2 : (Builtin.Str.partsBetween x (Builtin.Str.occurrences x y 0 x.length (x.length + 1)) y.length).length ≤ sizeLine)
    (hq : ∀ (l : List (Str × Tok)) (k : Nat),l.map (·.1) = Txt.split x y→Q (.ref s.heap.objs.size) { s with heap:=s.heap.push { cls:=.type "list",data:=.seq (strValues l).toArray },toks:=k }) :
    wpAny (model prog w) A (call (.builtin "str.split") [.str x t,.str y u]) Q E s:=by
  cases h1 : (decide (x.length < y.length) || decide (Builtin.Str.strKind x < Builtin.Str.strKind y)) with
  | true=>exact call_meets PySem.F.slot_str_split (typeIs_str _ _ _) PySem.F.entry_str_split (PySem.F.args_str_split_2 _ _) (meets_str_split_cannot_occur x y t u h1) (hq [(x,t)] s.toks (if_pos h1).symm)
  | false =>
    have n1 : ¬ (decide (x.length < y.length) || decide (Builtin.Str.strKind x < Builtin.Str.strKind y)) = true:=by rw [h1]; nofun
    cases h2 : (Builtin.Str.occurrences x y 0 x.length (x.length + 1)).isEmpty with
    | true=>exact call_meets PySem.F.slot_str_split (typeIs_str _ _ _) PySem.F.entry_str_split (PySem.F.args_str_split_2 _ _) (meets_str_split_not_found x y t u h1 hy h2) (hq [(x,t)] s.toks ((if_neg n1).trans (if_pos h2)).symm)
    | false =>
      have n2 : ¬ (Builtin.Str.occurrences x y 0 x.length (x.length + 1)).isEmpty = true:=by rw [h2]; nofun
      refine call_meets PySem.F.slot_str_split (typeIs_str _ _ _) PySem.F.entry_str_split (PySem.F.args_str_split_2 _ _) (meets_str_split_sep x y t u h1 hy h2 hz hz2) ?_
      show wants Q E _ { s with toks:=_,heap:=s.heap.push { cls:=.type "list",data:=.seq (strsFrom s.toks (Builtin.Str.partsBetween x (Builtin.Str.occurrences x y 0 x.length (x.length + 1)) y.length)).toArray } }
      rw [strsFrom_eq]
      exact hq (numbered s.toks _) _ ((numbered_texts _ _).trans ((if_neg n1).trans (if_neg n2)).symm)
end
theorem vals_strs : ∀ l : List (Str × Tok),Vals (l.map fun p=>V.str p.1) (strValues l)
  | []=>.nil
  | p::r=>.cons ⟨p.2,rfl⟩ (vals_strs r)
theorem isDs_strs {K : PySem.W.Frag} {m : List Addr} {H : Hp} : ∀ ts : List Str,IsDs K m H (ts.map M.D.str) (ts.map V.str)
  | []=>mkNil
  | t::r=>mkCons (mkStr t) (isDs_strs r)
section
variable {X : Cx}
theorem mt_splitD : MtM X "str.split" (fun x xs H Q=>∃ m st a ds d st',Rel X.K m st H∧MS.IsD X.K m H a x∧IsDs X.K m H ds xs∧M.mSplit st a ds = some (d,st')∧Post X.K m H d st' Q):=by
  intro pins s σ H x xs v us Q I rx rs h
  obtain ⟨m,st,a,ds,d,st',R0,i1,i2,e,q⟩:=h
  unfold M.mSplit at e
  split at e
  · rename_i z y
    obtain ⟨c,e1,e⟩:=bindO e
    split at e
    · rename_i hl
      cases e
      have hy:=oneOf_eq e1
      subst hy
      have hx:=i1.str
      subst hx
      obtain ⟨y',rfl,iy⟩:=i2.one
      have hy':=iy.str
      subst hy'
      obtain ⟨t,rfl⟩:=rx
      cases rs with
      | cons r rr =>
        cases rr
        obtain ⟨u,rfl⟩:=r
        have hsp:=split_eq z c
        obtain ⟨_,_,_,h4⟩:=splitC_spec c z.cps.toList
        have hll : z.cps.toList.length = z.length:=by simp [Str.length]
        have l2:=lim_eq
        have hlim : M.lim = 16777216:=rfl
        have hparts : (Builtin.Str.partsBetween z (Builtin.Str.occurrences z ⟨#[c]⟩ 0 z.length (z.length + 1)) (⟨#[c]⟩ : Str).length).length ≤ sizeLine:=by
          have:=PySem.StrLaws.occ_length_le z ⟨#[c]⟩ 0 z.length (z.length + 1)
          unfold Builtin.Str.partsBetween
          simp
          omega
        refine split_new rfl (by omega) hparts fun l k hk=>?_
        have hp:=I.hok.fresh (Nat.le_refl s.heap.objs.size)
        have hts : l.map (·.1) = (M.splitC c z.cps.toList).map fun p=>(⟨p.toArray⟩ : Str):=hk.trans hsp
        have hlen : l.length = (M.splitC c z.cps.toList).length:=by simpa using congrArg List.length hts
        refine ⟨.ref s.heap.objs.size,_,I.laid (a:=s.heap.objs.size) (o:=.lst (l.map fun p=>V.str p.1)) (fun _ _ w=>Heap.get?_push_of_some _ w) (Nat.le_refl _) ⟨?_,strValues l,0,vals_strs l,Heap.get?_push_size _ rfl⟩,rfl,?_⟩
        · rw [List.length_map]; omega
        · have ed : (M.splitC c z.cps.toList).map (fun p=>M.D.str ⟨p.toArray⟩) = (l.map (·.1)).map M.D.str:=by rw [hts,List.map_map]; rfl
          have ev : (l.map fun p=>V.str p.1) = (l.map (·.1)).map V.str:=by rw [List.map_map]; rfl
          have key : IsDs X.K m H ((M.splitC c z.cps.toList).map fun p=>M.D.str ⟨p.toArray⟩) (l.map fun p=>V.str p.1):=by
            rw [ed,ev]; exact isDs_strs _
          exact q _ (m++[s.heap.objs.size]) _ (Sub.app _ _) (Tr.of_same (same_new hp)) (R0.new hp key) R0.newLoc
    · cases e
  · cases e
theorem pe_fmt {a : Expr} {ta : TE} {pos : Pos} (ha : PE X a ta) : PE X (.FormattedValue a (-1) none pos) (fun σ H Q=>ta σ H fun x H1=>(∃ i,x = .int i∧i.natAbs.log2 < 1920∧Q (.str (toString i)) H1)∨∃ z,x = .str z∧z.length ≤ sizeLine∧Q (.str z) H1):=by
  intro pins s σ H Q I h
  refine FormattedValue_plain (thn (ha pins s σ H _ I h) fun v s1 ⟨x,H1,I1,r1,q1⟩=>?_)
  rcases q1 with ⟨i,rfl,hi,q⟩ | ⟨z,rfl,hz,q⟩
  · obtain ⟨t,rfl⟩:=r1
    exact formatField_int_small hi ⟨.str _,H1,I1.tok _,⟨_,rfl⟩,q⟩
  · obtain ⟨t,rfl⟩:=r1
    exact formatField_str (fun t' tk=>⟨.str _,H1,I1.tok tk,⟨t',rfl⟩,q⟩) hz
noncomputable def tJoins : List TE→Str→L2.St→Hp→VK→Prop
  | [],acc,_,H,Q=>acc.length ≤ sizeLine∧Q (.str acc) H
  | t::ts,acc,σ,H,Q=>t σ H fun x H1=>∃ z,x = .str z∧(acc++z).length ≤ sizeLine∧tJoins ts (acc++z) σ H1 Q
inductive PEs (X : Cx) : List Expr→List TE→Prop
  | nil : PEs X [] []
  | cons {p : Expr} {ps : List Expr} {t : TE} {ts : List TE} (h : PE X p t) (r : PEs X ps ts) : PEs X (p::ps) (t::ts)
theorem joins_ok : ∀ {ps : List Expr} {ts : List TE} {acc : Str} {pins : List (Addr × Obj)} {s : Shared} {σ : L2.St} {H : Hp} {Q : VK},PEs X ps ts→Inv X pins σ H s→tJoins ts acc σ H Q →
    wpAny (model X.prog X.w) X.A (joinParts acc (ps.map (eval · X.env))) (EP X pins σ Q) X.xe s
  | _,_,acc,pins,s,σ,H,Q,.nil,I,h=>joinParts_nil ⟨.str acc,H,I.tok _,⟨_,rfl⟩,h.2⟩ h.1
  | _,_,acc,pins,s,σ,H,Q,.cons hp hr,I,h=>by
    refine joinParts_cons (thn (hp pins s σ H _ I h) fun v s1 ⟨x,H1,I1,r1,q1⟩=>?_)
    obtain ⟨z,rfl,hz,q⟩:=q1
    obtain ⟨t,rfl⟩:=r1
    exact ⟨hz,joins_ok hr I1 q⟩
theorem pe_fstr {p1 p2 : Expr} {ps : List Expr} {ts : List TE} {pos : Pos} (h : PEs X (p1::p2::ps) ts) (hev : evalEach ps X.env = ps.map (eval · X.env)) : PE X (.JoinedStr (p1::p2::ps) pos) (fun σ H Q=>tJoins ts Str.empty σ H Q):=by
  intro pins s σ H Q I q
  refine JoinedStr_many ?_
  rw [hev]
  exact joins_ok h I q
open M (D Cell Store Sl)
theorem joins_run {K : PySem.W.Frag} {r : M.R} : ∀ {es : List M.E} {acc z : Str} {m : List Addr} {st st' : Store} {H : Hp} {τ : Sl} {σ : L2.St} {ds : List D} {Q : VK},Rel K m st H→SlotOk K m H τ σ→M.evs (r.ev τ) es st = some (ds,st')→M.catD ds acc = some z→acc.length ≤ sizeLine →
    Post K m H (.str z) st' Q→tJoins (es.map fun e=>tD K fun τ st=>r.ev τ st e) acc σ H Q
  | [],acc,z,m,st,st',H,τ,σ,ds,Q,R0,S0,e,e2,hz,q=>by
    cases e
    cases e2
    exact ⟨hz,q.here R0 (mkStr _)⟩
  | x::es,acc,z,m,st,st',H,τ,σ,ds,Q,R0,S0,e,e2,hz,q=>by
    have e : ((r.ev τ st x).bind fun p=>(M.evs (r.ev τ) es p.2).bind fun q=>some (p.1::q.1,q.2)) = some (ds,st'):=e
    obtain ⟨d1,s1,e1,e⟩:=bindD e
    obtain ⟨w,e3,e⟩:=bindO e
    cases e
    cases d1 with
    | str y =>
      have e2 : (if (acc++y).length ≤ M.lim then M.catD w.1 (acc++y) else none) = some z:=e2
      split at e2
      · rename_i hl
        have l2:=lim_eq
        exact ⟨m,st,τ,.str y,s1,R0,S0,e1,fun v m1 H1 b1 t1 R1 i1=>⟨y,i1.str,by omega,joins_run R1 (S0.mono b1 t1) e3 e2 (by omega) (q.mono b1 t1)⟩⟩
      · cases e2
    | _=>cases e2
end
end MS
end
section
set_option linter.all false
set_option Elab.async false
set_option maxRecDepth 100000
set_option maxHeartbeats 4000000
namespace MS
open PySem PySem.Spec PyProof.Rows L2
open M (D Cell Store Sl)
section
variable {K : PySem.W.Frag} {m m1 : List Addr} {H H1 : Hp}
mutual
theorem isD_nl : ∀ (d : D) (v : V),M.noLoc d = true→MS.IsD K m1 H1 d v→MS.IsD K m H1 d v
  | .non,_,_,h=>by rw [h.non]; exact mkNon
  | .bl _,_,_,h=>by rw [h.bl]; exact mkBl _
  | .int _,_,_,h=>by rw [h.int]; exact mkInt _
  | .str _,_,_,h=>by rw [h.str]; exact mkStr _
  | .tup ds,_,n,h=>by
    obtain ⟨a,xs,rfl,q,r⟩:=h.tup
    unfold M.noLoc at n
    exact mkTup q (isDs_nl ds xs n r)
  | .lst ds,_,n,h=>by
    obtain ⟨a,xs,rfl,q,r⟩:=h.lst
    unfold M.noLoc at n
    exact mkLst q (isDs_nl ds xs n r)
  | .loc l,_,n,h=>by unfold M.noLoc at n; cases n
theorem isDs_nl : ∀ (ds : List D) (xs : List V),M.noLocs ds = true→IsDs K m1 H1 ds xs→IsDs K m H1 ds xs
  | [],_,_,h=>by rw [h.nil]; exact mkNil
  | d::ds,_,n,h=>by
    obtain ⟨x,r,rfl,q,t⟩:=h.cons
    unfold M.noLocs at n
    rw [Bool.and_eq_true] at n
    exact mkCons (isD_nl d x n.1 q) (isDs_nl ds r n.2 t)
end
mutual
theorem isD_back (s : Sub m m1) : ∀ (d : D) (v v1 : V),MS.IsD K m H d v→MS.IsD K m1 H1 d v1→MS.IsD K m H1 d v1
  | .non,_,_,_,h=>by rw [h.non]; exact mkNon
  | .bl _,_,_,_,h=>by rw [h.bl]; exact mkBl _
  | .int _,_,_,_,h=>by rw [h.int]; exact mkInt _
  | .str _,_,_,_,h=>by rw [h.str]; exact mkStr _
  | .tup ds,_,_,h0,h=>by
    obtain ⟨a,xs,rfl,q,r⟩:=h.tup
    obtain ⟨a0,xs0,_,_,r0⟩:=h0.tup
    exact mkTup q (isDs_back s ds xs0 xs r0 r)
  | .lst ds,_,_,h0,h=>by
    obtain ⟨a,xs,rfl,q,r⟩:=h.lst
    obtain ⟨a0,xs0,_,_,r0⟩:=h0.lst
    exact mkLst q (isDs_back s ds xs0 xs r0 r)
  | .loc l,_,_,h0,h=>by
    obtain ⟨a0,e0,_⟩:=h0.loc
    obtain ⟨a,e,rfl⟩:=h.loc
    have:=s l a0 e0
    rw [e] at this
    cases this
    exact mkLoc e0
theorem isDs_back (s : Sub m m1) : ∀ (ds : List D) (xs xs1 : List V),IsDs K m H ds xs→IsDs K m1 H1 ds xs1→IsDs K m H1 ds xs1
  | [],_,_,_,h=>by rw [h.nil]; exact mkNil
  | d::ds,_,_,h0,h=>by
    obtain ⟨x,r,rfl,q,t⟩:=h.cons
    obtain ⟨x0,r0,rfl,q0,t0⟩:=h0.cons
    exact mkCons (isD_back s d x0 x q0 q) (isDs_back s ds r0 r t0 t)
end
theorem isKV_back (s : Sub m m1) : ∀ (kvs : List (D × D)) (xs xs1 : List (Key × V)),IsKV K m H kvs xs→IsKV K m1 H1 kvs xs1→IsKV K m H1 kvs xs1
  | [],_,_,_,h=>h
  | p::r,_,_,⟨k0,v0,xr0,e0,hk0,hv0,hr0⟩,⟨k,v,xr,e,hk,hv,hr⟩=>⟨k,v,xr,e,hk,isD_back s _ _ _ hv0 hv,isKV_back s r _ _ hr0 hr⟩
theorem isC_back (s : Sub m m1) {c : Cell} {a : Addr} (h0 : IsC K m H c a) (h : IsC K m1 H1 c a) : IsC K m H1 c a:=by
  cases c with
  | lst w ds =>
    cases w with
    | true =>
      obtain ⟨xs,e,q⟩:=h
      obtain ⟨xs0,_,q0⟩:=h0
      exact ⟨xs,e,isDs_back s _ _ _ q0 q⟩
    | false =>
      obtain ⟨xs,e,q⟩:=h
      obtain ⟨xs0,_,q0⟩:=h0
      exact ⟨xs,e,isDs_back s _ _ _ q0 q⟩
  | dic kvs =>
    obtain ⟨xs,e,q⟩:=h
    obtain ⟨xs0,_,q0⟩:=h0
    exact ⟨xs,e,isKV_back s _ _ _ q0 q⟩
theorem pre_at {st st0 : Store} (h : st0.take st.length = st) {l : Nat} {c : Cell} (e : st[l]? = some c) : st0[l]? = some c:=by
  have hl:=(List.getElem?_eq_some_iff.mp e).1
  rw [← h,List.getElem?_take,if_pos hl] at e
  exact e
theorem Rel.cutBack {st st0 : Store} (R0 : Rel K m st H) (R1 : Rel K m1 st0 H1) (s : Sub m m1) (h : st0.take st.length = st) {H2 : Hp} (t : Tr H1 H2) (hw : ∀ (l : Nat) (c : Cell) (a : Addr),st[l]? = some c→m[l]? = some a→Wr c = true→H2 a = H1 a) : Rel K m st H2 :=
  ⟨R0.len,R0.nd,fun l c a e ea=>isC_mono (Sub.refl m) t (isC_back s (R0.cell l c a e ea) (R1.cell l c a (pre_at h e) (s l a ea))) fun w=>hw l c a e ea w⟩
end
section
variable {X : Cx}
theorem inv_freeze {pins : List (Addr × Obj)} {s : Shared} {σ : L2.St} {H : Hp} {a : Addr} {xs : List V} (I : Inv X pins σ H s) (h : H a = some (.lst xs)) : ∃ o,Inv X pins σ (upd H a (.frz o (.lst xs))) s:=by
  obtain ⟨z,its,n,r,e⟩:=id (I.hok a _ h)
  refine ⟨{ cls:=.type "list",data:=.seq its.toArray n },I.un (t':=s.toks) (h':=s.heap) ⟨fun b o q _ _ _=>q,fun b o q _ _ _=>⟨o.slots,q⟩,fun b o q hn _=>?_,fun b o q _=>⟨o,q⟩,fun b ys q=>?_,fun b o u q=>?_,fun b ps q=>⟨#[],?_⟩⟩ ?_⟩
  · rw [upd_ne (fun z=>by subst z; rw [h] at hn; cases hn)]
    exact hn
  · rw [upd_ne (ne_of q h (by intro z; cases z))]; exact q
  · rw [upd_ne (ne_of q h (by intro z; cases z))]; exact q
  · rw [upd_ne (ne_of q h (by intro z; cases z)),q]; simp
  · intro b u q
    by_cases hb : b = a
    · subst hb
      rw [upd_same] at q
      cases q
      exact ⟨e,z,its,n,r,e⟩
    · rw [upd_ne hb] at q
      refine (I.hok b u q).stay (fun c v _ w=>w) (fun c w=>?_) fun c ys w=>?_
      · rw [upd_ne (ne_of w h (by intro z; cases z))]; exact w
      · rw [upd_ne (ne_of w h (by intro z; cases z))]; exact w
theorem pe_gc {p : Expr} {f : Sl→Store→Option (D × Store)} (he : PE X p (tD X.K f)) : PE X p (tD X.K fun τ st=>(f τ st).map fun q=>M.gcD st q):=by
  intro pins s σ H Q I h
  obtain ⟨m,st,τ,d,st',R0,S0,e,q⟩:=h
  obtain ⟨⟨d0,st0⟩,e1,e2⟩:=mapD e
  refine thn (he pins s σ H (fun v H1=>∃ m1,Sub m m1∧Tr H H1∧Rel X.K m1 st0 H1∧MS.IsD X.K m1 H1 d0 v) I ⟨m,st,τ,d0,st0,R0,S0,e1,fun v m1 H1 b1 t1 R1 i1=>⟨m1,b1,t1,R1,i1⟩⟩) fun v s1 ⟨x,H1,I1,r1,m1,b1,t1,R1,i1⟩=>?_
  have plain : (d0,st0) = (d,st')→EP X pins σ Q v s1:=fun z=>by
    cases z
    exact ⟨x,H1,I1,r1,q x m1 H1 b1 t1 R1 i1⟩
  unfold M.gcD at e2
  split at e2
  · rename_i hp
    split at e2
    · rename_i hn
      cases e2
      refine ⟨x,H1,I1,r1,q x m H1 (Sub.refl m) t1 (R0.cutBack R1 b1 hp (Tr.refl H1) fun _ _ _ _ _ _=>rfl) (isD_nl _ _ hn i1)⟩
    · split at e2
      · rename_i l hd
        simp only at hd
        split at e2
        · rename_i hl
          split at e2
          · rename_i ds hc
            split at e2
            · rename_i hn
              cases e2
              subst hd
              obtain ⟨a,ha,rfl⟩:=i1.loc
              obtain ⟨xs,hx,ix⟩:=R1.cell l _ a hc ha
              obtain ⟨o,I2⟩:=inv_freeze I1 hx
              have t2 : Tr H1 (upd H1 a (.frz o (.lst xs))):=⟨fun b zs e=>by rw [upd_ne (ne_of e hx (by intro z; cases z))]; exact e,fun b o u e=>by rw [upd_ne (ne_of e hx (by intro z; cases z))]; exact e⟩
              refine ⟨.ref a,_,I2,r1,q _ m _ (Sub.refl m) (t1.trans t2) (R0.cutBack R1 b1 hp t2 fun l' c a' e ea w=>?_) ?_⟩
              · refine upd_ne fun z=>?_
                subst z
                have hlt:=(List.getElem?_eq_some_iff.mp e).1
                have:=R1.nd l' l a' c _ (b1 l' a' ea) ha (pre_at hp e) hc w rfl
                omega
              · exact mkLst (.inl ⟨o,upd_same⟩) (isDs_nl _ _ hn (isDs_mono (Sub.refl m1) t2 _ _ ix))
            · exact plain e2
          · exact plain e2
        · exact plain e2
      · exact plain e2
  · exact plain e2
end
end MS
end
section
set_option linter.all false
set_option Elab.async false
set_option maxRecDepth 100000
set_option maxHeartbeats 4000000
namespace MS
open PySem PySem.Spec PyProof.Rows L2
open M (D Cell Store Sl)
section
variable {X : Cx}
end
end MS
end
section
set_option linter.all false
set_option Elab.async false
set_option maxRecDepth 100000
set_option maxHeartbeats 4000000
namespace MS
open PySem PySem.Spec PyProof.Rows L2
open M (D Cell Store Sl E S T Src Fn Out R)
theorem ps_setComp {X : Cx} {elt tg iter : Expr} {ifs : List Expr} {scope : Scope} {pos pos' cpos : Pos} {N : List Str} {src : List (Option Nat)} {wi : TI} {g : TG} {tt : TT} {te : TE} {i : Nat} {x : Str} (hc : X.calm = true) (S : CompScope X N src scope) (hi : PI X tg iter wi)
    (hg : ∀ C fp s H,PG (cxComp X N scope C fp s H) tg g) (ht : ∀ C fp s H,TestR (cxComp X N scope C fp s H) ifs tt) (he : ∀ C fp s H,PE (cxComp X N scope C fp s H) elt te)
    (hs : ∀ x,foldedSetIterable iter X.env x = pure x) (hN : X.N.Nodup) (hx : X.N[i]? = some x) (hl : Loc X.env.scope x) (hf : X.fn x = true∨X.env.scope.names.lookup x = some .local)
    (hsw : swapsWith (.ListComp elt [⟨tg,iter,ifs,0⟩] scope cpos) (some (.Name x pos')) pos.line X.env = pure true) :
    PS X (.Assign [.Name x pos'] (.ListComp elt [⟨tg,iter,ifs,0⟩] scope cpos) pos) (tAsg (tComp src wi g tt te) (gName i)):=by
  intro pins s σ H D I h
  rw [exec_Assign_Name_used _ _ _ _ hsw]
  refine wpAny_bind (wpAny_standAt (wpAny_bind ?_))
  show wpAny _ X.A (do let _ ← comprehension (.ListComp elt [⟨tg,iter,ifs,0⟩] scope cpos) scope X.env _ (newList []) false (eval iter X.env) (some (assign (.Name x pos') X.env))) _ _ s
  refine wpAny_bind (wpAny_mono (wpAny_comprehension_free (use:=some (assign (.Name x pos') X.env)) (Q:=fun _ s'=>SP X pins D .next s') rfl hs (comp_clos S I) S.kind S.loc (thn (hi pins s σ H _ I h) fun v s1 h1=>thn h1 fun itv s2 h2=>?_)) (fun _ s' hq=>wpAny_pure (wpAny_pure hq)) fun _ _ e=>e)
  obtain ⟨it,fp,tn,J,H2,e,I2,T,st2,f2,W,w0,turn⟩:=h2
  subst e
  refine comp_block hc I2 T st2 f2 S (fun C=>hg C fp s2 H2) (fun C=>ht C fp s2 H2) (fun C=>he C fp s2 H2) W w0 turn ?_
  intro Dd C s' H' acc fin nD I' fC hm
  obtain ⟨m',hn⟩:=hm
  obtain ⟨c0,c1,c2,c3,c4,c5⟩:=fC
  show wpAny _ X.A (assign (.Name x pos') X.env (.ref Dd)) _ _ _
  refine wpAny_assign_Name (store_ok2 I' hN hx hl (show RelV (.ref Dd) (.ref Dd) from rfl) (fun s'' I'' hsb=>?_) hf)
  obtain ⟨a,sb,ha⟩:=hsb
  have hCa : C ≠ a:=by
    rcases ha with z | z
    · rw [z]; exact c1
    · exact fun q=>c4 x a z q.symm
  refine ⟨m',hn.sameBut sb hCa,fun h' sb'=>?_⟩
  exact ⟨_,_,I''.turned (t':=s''.toks) (fun b o hb e=>(sb'.2 b hb).trans e) c0 c1 c3 c4 c5,fin Dd nD⟩
noncomputable def iSeq (K : PySem.W.Frag) (tl : TE) : TI:=fun σ H R=>tl σ H fun x H1=>(∃ a,x = .ref a∧(((∃ xs,SqL K H1 a xs)∧R (Itl K a) H1)∨((∃ xs,SqT K H1 a xs)∧R (Itt K a) H1)))∨∃ z,x = .str z∧z.cps.all (· < 128) = true∧R (Its z) H1
theorem pi_seq {X : Cx} {tg l : Expr} {tl : TE} (hl : PE X l tl) : PI X tg l (iSeq X.K tl):=by
  intro pins s σ H R I h
  refine thn (hl pins s σ H _ I h) fun v s1 ⟨x,H1,I1,r1,q1⟩=>?_
  rcases q1 with ⟨a,e,q⟩ | ⟨z,e,ha,q⟩
  · subst e
    cases r1
    rcases q with ⟨⟨xs,hq⟩,q⟩ | ⟨⟨xs,hq⟩,q⟩
    · obtain ⟨its,rv,p,hz⟩:=I1.list hq
      refine wpAny_pyIter_list p.isList ?_
      refine ⟨s1.heap.objs.size,[s1.heap.objs.size],_,_,H1,rfl,I1.kept (t':=s1.toks) fun b o e=>Heap.get?_push_of_some _ e,turn_list a _,⟨_,Heap.get?_push_size _ rfl,rfl,rfl⟩,fun b hb=>?_,q⟩
      have e : b = s1.heap.objs.size:=by simpa using hb
      subst e
      exact I1.fpOk (Nat.le_refl _) (I1.hok.fresh (Nat.le_refl _))
    · obtain ⟨its,rv,p,hz⟩:=I1.tuple hq
      refine wpAny_pyIter_tuple (show s1.heap.IsTuple a its.toArray from p) ?_
      refine ⟨s1.heap.objs.size,[s1.heap.objs.size],_,_,H1,rfl,I1.kept (t':=s1.toks) fun b o e=>Heap.get?_push_of_some _ e,turn_tuple a _,⟨_,Heap.get?_push_size _ rfl,rfl,rfl⟩,fun b hb=>?_,q⟩
      have e : b = s1.heap.objs.size:=by simpa using hb
      subst e
      exact I1.fpOk (Nat.le_refl _) (I1.hok.fresh (Nat.le_refl _))
  · subst e
    obtain ⟨t,rfl⟩:=r1
    refine wpAny_pyIter_ascii ha ?_
    refine ⟨s1.heap.objs.size,[s1.heap.objs.size],_,_,H1,rfl,I1.kept (t':=s1.toks) fun b o e=>Heap.get?_push_of_some _ e,turn_text z t _,⟨_,Heap.get?_push_size _ rfl,rfl,rfl⟩,fun b hb=>?_,q⟩
    have e : b = s1.heap.objs.size:=by simpa using hb
    subst e
    exact I1.fpOk (Nat.le_refl _) (I1.hok.fresh (Nat.le_refl _))
structure Glo where
  cs : List (Str × D)
  ds : List (Str × List Str × List D)
structure Ctx where
  N : List Str
  sc : Scope
  fns : List Str
  glo : Glo
noncomputable def bName : M.B→String
  | .len=>"len"
  | .min=>"min"
  | .max=>"max"
  | .tuple=>"tuple"
  | .list=>"list"
  | .all=>"all"
  | .sorted=>"sorted"
  | .int=>"int"
  | .str=>"str"
noncomputable def relab (scope sc : Scope) : Scope:={ scope with names:=scope.names.map fun (n,k)=>if (k == NameKind.free && sc.kind == .function && sc.names.lookup n == some .cell) then (n,NameKind.cell) else (n,k) }
noncomputable def tlOk (N : List Str) (sc : Scope) (t : T) : Bool:=t.slots.all fun i=>match N[i]? with
  | some x=>sc.names.lookup x == some .local
  | none=>false
theorem tlOk_of {N : List Str} {sc : Scope} {t : T} (h : tlOk N sc t = true) : ∀ i ∈ t.slots,∀ x,N[i]? = some x→sc.names.lookup x = some .local:=by
  intro i hi x hx
  unfold tlOk at h
  have:=List.all_eq_true.mp h i hi
  rw [hx] at this
  simpa using this
noncomputable def Star (p : Expr) : Prop:=∀ es env,starEach (p::es) env = (false,eval p env)::starEach es env
inductive CkTys (c : Ctx) : List M.Ty→List Expr→Prop
  | nil : CkTys c [] []
  | cons {t ts ps pos} (ht : t ≠ .non) (hg : c.sc.names.lookup (Str.ofString t.name) = some .globalImplicit) (h : CkTys c ts ps) : CkTys c (t::ts) (.Name (Str.ofString t.name) pos::ps)
inductive CkTs (c : Ctx) : List Nat→List Expr→Prop
  | nil : CkTs c [] []
  | cons {i x pos is es} (hN : c.N[i]? = some x) (hl : c.sc.names.lookup x = some .local∨c.sc.names.lookup x = some .cell) (h : CkTs c is es) : CkTs c (i::is) (.Name x pos::es)
inductive CkT (c : Ctx) : T→Expr→Prop
  | tup {is es k pos} (h : CkTs c is es) : CkT c (.tup is) (.Tuple es k pos)
  | var {i x pos} (hN : c.N[i]? = some x) (hl : c.sc.names.lookup x = some .local∨c.sc.names.lookup x = some .cell) : CkT c (.var i) (.Name x pos)
noncomputable def gcOk : Expr→Bool
  | .Call _ _ _ _=>true
  | .ListComp _ _ _ _=>true
  | .List _ _=>true
  | .BinOp _ _ _ _=>true
  | .Subscript _ _ _=>true
  | _=>false
mutual
inductive CkE : Ctx→E→Expr→Prop
  | var {c i x pos} (hN : c.N[i]? = some x) (hv : Vis c.sc x) (hd : (x == ("__debug__" : Str)) = false) (hcd : (x == ("__classdict__" : Str)) = false) : CkE c (.var i) (.Name x pos)
  | int {c i j pos} : CkE c (.lit (.int i)) (.Constant (.int i) j pos)
  | bl {c i j pos} : CkE c (.lit (.bl i)) (.Constant (.bool i) j pos)
  | non {c j pos} : CkE c (.lit .non) (.Constant .none j pos)
  | str {c i j pos} : CkE c (.lit (.str i)) (.Constant (.str i) j pos)
  | glo {c x d pos} (hg : c.sc.names.lookup x = some .globalImplicit) (hm : (x,d) ∈ c.glo.cs) (hd : (x == ("__debug__" : Str)) = false) : CkE c (.glo x d) (.Name x pos)
  | bin {c op a b pa pb pos} (ha : CkE c a pa) (hb : CkE c b pb) : CkE c (.bin op a b) (.BinOp pa op pb pos)
  | not {c a pa pos} (ha : CkE c a pa) : CkE c (.not a) (.UnaryOp .Not pa pos)
  | cmp {c op a b pa pb pos} (ha : CkE c a pa) (hb : CkE c b pb) (hm : behindInMarks op pb = false) : CkE c (.cmp op a b) (.Compare pa [op] [pb] pos)
  | and2 {c a b pa pb pos} (ha : CkE c a pa) (hb : CkE c b pb) : CkE c (.and a b) (.BoolOp .And [pa,pb] pos)
  | andN {c a b pa pb pd r pos} (ha : CkE c a pa) (hb : CkE c b (.BoolOp .And (pb::pd::r) pos)) : CkE c (.and a b) (.BoolOp .And (pa::pb::pd::r) pos)
  | or2 {c a b pa pb pos} (ha : CkE c a pa) (hb : CkE c b pb) : CkE c (.or a b) (.BoolOp .Or [pa,pb] pos)
  | ite {c q a b pq pa pb pos} (hq : CkE c q pq) (ha : CkE c a pa) (hb : CkE c b pb) : CkE c (.ite q a b) (.IfExp pq pa pb pos)
  | tup {c es ps k pos} (h : CkEs c es ps) : CkE c (.tup es) (.Tuple ps k pos)
  | lst {c es ps pos} (h : CkEs c es ps) : CkE c (.lst es) (.List ps pos)
  | idx {c a b pa pb pos} (ha : CkE c a pa) (hb : CkE c b pb) (hs : PlainIx pb) : CkE c (.idx a b) (.Subscript pa pb pos)
  | call {c f x es p ps p0 pos} (hg : c.sc.names.lookup x = some .globalImplicit) (hf : c.fns[f]? = some x) (hd : (x == ("__debug__" : Str)) = false) (h : CkEs c es (p::ps)) : CkE c (.call f es) (.Call (.Name x p0) (p::ps) [] pos)
  | bcall {c b es p ps p0 pos} (hg : c.sc.names.lookup (Str.ofString (bName b)) = some .globalImplicit) (h : CkEs c es (p::ps)) : CkE c (.bcall b es) (.Call (.Name (Str.ofString (bName b)) p0) (p::ps) [] pos)
  | isi1 {c t a pa p0 p1 pos} (hg : c.sc.names.lookup ("isinstance" : Str) = some .globalImplicit) (ht : t ≠ .non) (hgt : c.sc.names.lookup (Str.ofString t.name) = some .globalImplicit) (ha : CkE c a pa) :
      CkE c (.isi a [t] false) (.Call (.Name "isinstance" p0) [pa,.Name (Str.ofString t.name) p1] [] pos)
  | isiN {c ts a pa p0 ps k p1 pos} (hl : ts.length ≤ 1000) (hg : c.sc.names.lookup ("isinstance" : Str) = some .globalImplicit) (ht : CkTys c ts ps) (ha : CkE c a pa) : CkE c (.isi a ts true) (.Call (.Name "isinstance" p0) [pa,.Tuple ps k p1] [] pos)
  | append {c a e x xp pe apos cpos} (ha : CkE c a (.Name x xp)) (he : CkE c e pe) (hl : (apos.endLine == cpos.line) = true) : CkE c (.meth a .append [e]) (.Call (.Attribute (.Name x xp) "append" apos) [pe] [] cpos)
  | join {c a e pa pe apos cpos} (ha : CkE c a pa) (he : CkE c e pe) (hb : ∀ env,attributeBase pa "join" env (eval pa env) = eval pa env) (hl : (apos.endLine == cpos.line) = true) : CkE c (.meth a .join [e]) (.Call (.Attribute pa "join" apos) [pe] [] cpos)
  | split {c a e pa pe apos cpos} (ha : CkE c a pa) (he : CkE c e pe) (hb : ∀ env,attributeBase pa "split" env (eval pa env) = eval pa env) (hl : (apos.endLine == cpos.line) = true) : CkE c (.meth a .split [e]) (.Call (.Attribute pa "split" apos) [pe] [] cpos)
  | gc {c a p} (hp : gcOk p = true) (hg : ∀ b,a ≠ .gc b) (ha : CkE c a p) : CkE c (.gc a) p
  | fmt {c a pa pos} (ha : CkE c a pa) : CkE c (.fmt a) (.FormattedValue pa (-1) none pos)
  | fstr {c es p1 p2 ps pos} (h : CkEs c es (p1::p2::ps)) (hev : ∀ env,evalEach ps env = ps.map (eval · env)) : CkE c (.fstr es) (.JoinedStr (p1::p2::ps) pos)
  | comp {c t it elt sr tg iter pelt scope pos N} (hk : scope.kind = .function) (hcell : ∀ y ∈ scope.names,y.2 ≠ .cell) (hfree : ∀ y ∈ scope.names,y.2 = .free→c.sc.names.lookup y.1 = some .cell∨c.sc.names.lookup y.1 = some .free)
      (hloc : ∀ y ∈ scope.names,y.2 = .local→scope.names.lookup y.1 = some .local) (hlen : sr.length = N.length) (hsrc : ∀ (j i : Nat),sr[j]? = some (some i)→∃ x,N[j]? = some x∧c.N[i]? = some x∧scope.names.lookup x = some .free)
      (hnd : N.Nodup) (hs : ∀ env x,foldedSetIterable iter env x = pure x) (hi : CkI c tg it iter) (ht : CkT ⟨N,relab scope c.sc,c.fns,c.glo⟩ t tg) (htl : tlOk N (relab scope c.sc) t = true) (he : CkE ⟨N,relab scope c.sc,c.fns,c.glo⟩ elt pelt) :
      CkE c (.comp t it none elt sr) (.ListComp pelt [⟨tg,iter,[],0⟩] scope pos)
  | compIf {c t it q elt sr tg iter pq pelt scope pos N} (hk : scope.kind = .function) (hcell : ∀ y ∈ scope.names,y.2 ≠ .cell) (hfree : ∀ y ∈ scope.names,y.2 = .free→c.sc.names.lookup y.1 = some .cell∨c.sc.names.lookup y.1 = some .free)
      (hloc : ∀ y ∈ scope.names,y.2 = .local→scope.names.lookup y.1 = some .local) (hlen : sr.length = N.length) (hsrc : ∀ (j i : Nat),sr[j]? = some (some i)→∃ x,N[j]? = some x∧c.N[i]? = some x∧scope.names.lookup x = some .free)
      (hnd : N.Nodup) (hs : ∀ env x,foldedSetIterable iter env x = pure x) (hi : CkI c tg it iter) (ht : CkT ⟨N,relab scope c.sc,c.fns,c.glo⟩ t tg) (htl : tlOk N (relab scope c.sc) t = true)
      (hq : CkE ⟨N,relab scope c.sc,c.fns,c.glo⟩ q pq) (he : CkE ⟨N,relab scope c.sc,c.fns,c.glo⟩ elt pelt) : CkE c (.comp t it (some q) elt sr) (.ListComp pelt [⟨tg,iter,[pq],0⟩] scope pos)
  | dic {c es k v ks vs pos} (h : CkP c es (k::ks) (v::vs)) (h15 : (k::ks).length ≤ 15) : CkE c (.dic es) (.Dict (k::ks) (v::vs) pos)
  | dgt {c a b pa pb apos cpos} (ha : CkE c a pa) (hb : CkE c b pb) (hbs : ∀ env,attributeBase pa "get" env (eval pa env) = eval pa env) (hl : (apos.endLine == cpos.line) = true) (htr : ∀ env,backTo cpos (starEach [pb] env) = [(false,eval pb env)]) : CkE c (.dgt a b) (.Call (.Attribute pa "get" apos) [pb] [] cpos)
  | gidx {c x ks ds b pb p0 pos} (hg : c.sc.names.lookup x = some .globalImplicit) (hm : (x,ks,ds) ∈ c.glo.ds) (hd : (x == ("__debug__" : Str)) = false) (hb : CkE c b pb) (hs : NoSl pb) : CkE c (.gidx x ks ds b) (.Subscript (.Name x p0) pb pos)
  | gnin {c x ks ds b pb p0 pos} (hg : c.sc.names.lookup x = some .globalImplicit) (hm : (x,ks,ds) ∈ c.glo.ds) (hd : (x == ("__debug__" : Str)) = false) (hb : CkE c b pb) : CkE c (.gin true x ks b) (.Compare pb [.NotIn] [.Name x p0] pos)
  | sli {c a lo hi pa pl ph p2 pos} (ha : CkE c a pa) (hl : CkO c lo pl) (hh : CkO c hi ph) : CkE c (.sli a lo hi) (.Subscript pa (.Slice pl ph none p2) pos)
inductive CkP : Ctx→List E→List (Option Expr)→List Expr→Prop
  | nil {c} : CkP c [] [] []
  | cons {c k v es pk pv ks vs} (hk : CkE c k pk) (hv : CkE c v pv) (t : CkP c es ks vs) : CkP c (k::v::es) (some pk::ks) (pv::vs)
inductive CkO : Ctx→Option E→Option Expr→Prop
  | none {c} : CkO c none none
  | some {c e p} (h : CkE c e p) : CkO c (some e) (some p)
inductive CkEs : Ctx→List E→List Expr→Prop
  | nil {c} : CkEs c [] []
  | cons {c e es p ps} (h : CkE c e p) (t : CkEs c es ps) : CkEs c (e::es) (p::ps)
inductive CkI : Ctx→Expr→E→Expr→Prop
  | rng1 {c tg a pa p0 pos} (hg : c.sc.names.lookup ("range" : Str) = some .globalImplicit) (ha : CkE c a pa) : CkI c tg (.rng1 a) (.Call (.Name "range" p0) [pa] [] pos)
  | seq {c tg e p} (h : CkE c e p) : CkI c tg e p
end
mutual
inductive CkS : Ctx→S→Stmt→Prop
  | set {c i e x p pos pos'} (hN : c.N[i]? = some x) (hl : c.sc.names.lookup x = some .local∨c.sc.names.lookup x = some .cell) (h : CkE c e p) (hs : ∀ env,swapsWith p (some (.Name x pos')) pos.line env = pure false) : CkS c (.set (.var i) e) (.Assign [.Name x pos'] p pos)
  | setC {c i e x p pos pos'} (hN : c.N[i]? = some x) (hl : c.sc.names.lookup x = some .local∨c.sc.names.lookup x = some .cell) (h : CkE c e p) (hc : ∃ elt gs sc q,p = .ListComp elt gs sc q) (hs : ∀ env : Env,env.scope = c.sc→(swapsWith p (some (.Name x pos')) pos.line env = pure false∨swapsWith p (some (.Name x pos')) pos.line env = pure true)) : CkS c (.set (.var i) e) (.Assign [.Name x pos'] p pos)
  | dset {c a i e pa pi pe tpos pos} (ha : CkE c a pa) (hi : CkE c i pi) (he : CkE c e pe) (hs : ∀ env,swapsWith pe (some (.Subscript pa pi tpos)) pos.line env = pure false) : CkS c (.dset a i e) (.Assign [.Subscript pa pi tpos] pe pos)
  | rais {c p} : CkS c .rais p
  | expr {c e p pos} (h : CkE c e p) (hs : ∀ env,swapsWith p none pos.line env = pure false) : CkS c (.expr e) (.Expr p pos)
  | ret {c e p pos} (h : CkE c e p) : CkS c (.ret e) (.Return (some p) pos)
  | ite {c q a b pq pa pb pos} (hq : CkE c q pq) (ha : CkSs c a pa) (hb : CkSs c b pb) : CkS c (.ite q a b) (.If pq pa pb pos)
  | forr {c t it body tg iter pb pos} (ht : CkT c t tg) (hi : CkI c tg it iter) (hs : ∀ env x,foldedSetIterable iter env x = pure x) (hb : CkSs c body pb) : CkS c (.forr t it body) (.For tg iter pb [] pos)
inductive CkSs : Ctx→List S→List Stmt→Prop
  | nil {c} : CkSs c [] []
  | cons {c s ss p ps} (h : CkS c s p) (t : CkSs c ss ps) : CkSs c (s::ss) (p::ps)
  | doc {c ss x j pos pos' ps} (t : CkSs c ss ps) : CkSs c ss (.Expr (.Constant (.str x) j pos) pos'::ps)
end
theorem CkE.star {c : Ctx} {e : E} {p : Expr} (h : CkE c e p) : Star p:=by
  cases h with
  | gc hp hg ha =>
    cases p with
    | Call=>exact fun _ _=>rfl
    | ListComp=>exact fun _ _=>rfl
    | List=>exact fun _ _=>rfl
    | BinOp=>exact fun _ _=>rfl
    | Subscript=>exact fun _ _=>rfl
    | _=>cases hp
  | _=>exact fun _ _=>rfl
noncomputable def spN (K : PySem.W.Frag) (fns : List Fn) (n f : Nat) : Sp:=fun vs H Q _=>∃ m st ds d st',Rel K m st H∧IsDs K m H ds vs∧M.callD fns n f ds st = some (d,st')∧Post K m H d st' Q
noncomputable def FTab (P : Program) (w : World) (K : PySem.W.Frag) (mg : Str→Option Value) (base : Heap) (fns : List Fn) (names : List Str) (n : Nat) : Prop:=∀ (f : Nat) (x : Str),names[f]? = some x→∃ (fa : Addr) (fd : FuncData) (ps : List Str),
  mg x = some (.ref fa)∧FnOk P w K mg base CX0 n fa fd ps (spN K fns n f)∧PySem.W.keepIn K (.ref fa) = true∧Binds K fd ps []
structure Mo (K : PySem.W.Frag) (mg : Str→Option Value) (glo : Glo) (prm : Params) : Prop where
  gds : ∀ x ks ds,(x,ks,ds) ∈ glo.ds→∃ a,mg x = some (.ref a)∧FDict prm K a ks ds
  glo : ∀ x d,(x,d) ∈ glo.cs→∃ u v,mg x = some u∧RelV v u∧∀ m H,IsD K m H d v
  len : mg "len" = none
  min : mg "min" = none
  max : mg "max" = none
  tuple : mg "tuple" = none
  list : mg "list" = none
  all : mg "all" = none
  sorted : mg "sorted" = none
  isinstance : mg "isinstance" = none
  range : mg "range" = none
  int : mg "int" = none
  bool : mg "bool" = none
  str : mg "str" = none
  zip : mg "zip" = none
  any : mg "any" = none
  enumerate : mg "enumerate" = none
  reversed : mg "reversed" = none
  sum : mg "sum" = none
  set : mg "set" = none
  dict : mg "dict" = none
structure Good (fns : List Fn) (dl : Nat) (c : Ctx) (X : Cx) : Prop where
  room : Room dl X.A
  calm : X.calm = true
  N : X.N = c.N
  sc : X.env.scope = c.sc
  nd : c.N.Nodup
  kind : c.sc.kind = .function
  tab : FTab X.prog X.w X.K X.mg X.base fns c.fns dl
  mo : Mo X.K X.mg c.glo X.w.params
  xe : X.xe = fun _ _=>False
end MS
end
section
set_option linter.all false
set_option Elab.async false
set_option maxRecDepth 100000
set_option maxHeartbeats 4000000
namespace MS
open PySem PySem.Spec PyProof.Rows L2
open M (D Cell Store Sl E S T Src Fn Out R)
theorem noStars {c : Ctx} : ∀ {es : List E} {ps : List Expr},CkEs c es ps→∀ (pos : Pos) (env : Env),(backTo pos (starEach ps env)).any (·.1) = false
  | _,_,.nil,_,_=>rfl
  | _,_,.cons h t,pos,env=>by
    rw [h.star]
    show (false || (backTo pos (starEach _ env)).any (·.1)) = false
    rw [noStars t pos env]
    rfl
theorem Good.gl {fns : List Fn} {dl : Nat} {c : Ctx} {X : Cx} (G : Good fns dl c X) {x : Str} (h : c.sc.names.lookup x = some .globalImplicit) : Gl X x:=by
  show X.env.scope.names.lookup x = _
  rw [G.sc]; exact h
theorem relabel_eq {scope sc : Scope} {env : Env} (h : env.scope = sc) : relabel scope env = relab scope sc:=by
  unfold relabel relab Env.kindOf
  rw [h]
theorem Good.inner {fns : List Fn} {dl : Nat} {c : Ctx} {X : Cx} (G : Good fns dl c X) {N : List Str} {scope : Scope} {C : Addr} {fp : List Addr} {s : Shared} {H : Hp} (hk : scope.kind = .function) (hnd : N.Nodup) : Good fns dl ⟨N,relab scope c.sc,c.fns,c.glo⟩ (cxComp X N scope C fp s H) :=
  ⟨G.room,G.calm,rfl,relabel_eq G.sc,hnd,hk,G.tab,G.mo,rfl⟩
noncomputable def IsRow (K : PySem.W.Frag) (m : List Addr) (H : Hp) (k : RK) (a : Addr) : D→Prop
  | .tup ds=>k = .tup∧∃ xs,SqT K H a xs∧IsDs K m H ds xs
  | .loc l=>k = .lst∧m[l]? = some a
  | .lst ds=>k = .lst∧∃ xs,SqF K H a xs∧IsDs K m H ds xs
  | _=>False
theorem IsRow.mono {K : PySem.W.Frag} {m m' : List Addr} {H H' : Hp} {k : RK} {a : Addr} {d : D} (h : IsRow K m H k a d) (b : Sub m m') (t : Tr H H') : IsRow K m' H' k a d:=by
  cases d with
  | tup ds=>obtain ⟨e,xs,q,r⟩:=h; exact ⟨e,xs,t.sqT q,isDs_mono b t ds xs r⟩
  | loc l=>exact ⟨h.1,b l a h.2⟩
  | lst ds=>obtain ⟨e,xs,q,r⟩:=h; exact ⟨e,xs,t.sqF q,isDs_mono b t ds xs r⟩
  | _=>exact h.elim
theorem IsRow.sq {K : PySem.W.Frag} {m : List Addr} {st : Store} {H : Hp} {k : RK} {a : Addr} {d : D} {ds : List D} (h : IsRow K m H k a d) (R0 : Rel K m st H) (e : M.rowAt st d = some ds) : ∃ xs,k.sq K H a xs∧IsDs K m H ds xs:=by
  cases d with
  | tup es =>
    cases e
    obtain ⟨rfl,xs,q,r⟩:=h
    exact ⟨xs,q,r⟩
  | loc l =>
    obtain ⟨rfl,ha⟩:=h
    obtain ⟨a',xs,ha',z,q,r⟩:=R0.list e (mkLoc ha)
    cases z
    exact ⟨xs,q,r⟩
  | lst es =>
    cases e
    obtain ⟨rfl,xs,q,r⟩:=h
    exact ⟨xs,q.sq,r⟩
  | _=>exact h.elim
theorem IsRow.sq' {K : PySem.W.Frag} {m : List Addr} {st : Store} {H : Hp} {a : Addr} {d : D} {ds : List D} (h : IsRow K m H .lst a d) (R0 : Rel K m st H) (e : M.seqAt st d = some ds) : ∃ xs,SqL K H a xs∧IsDs K m H ds xs:=by
  cases d with
  | loc l=>exact h.sq R0 e
  | lst l=>exact h.sq R0 e
  | _=>cases e
theorem isRow_of' {K : PySem.W.Frag} {m : List Addr} {st : Store} {H : Hp} {d : D} {v : V} {ds : List D} (iv : MS.IsD K m H d v) (R0 : Rel K m st H) (e : M.seqAt st d = some ds) : ∃ a,v = .ref a∧IsRow K m H .lst a d∧∃ xs,SqL K H a xs:=by
  cases d with
  | loc l =>
    obtain ⟨a,xs,ha,rfl,q,r⟩:=R0.list e iv
    exact ⟨a,rfl,⟨rfl,ha⟩,xs,q⟩
  | lst l =>
    obtain ⟨a,xs,rfl,q,r⟩:=iv.lst
    exact ⟨a,rfl,⟨rfl,xs,q,r⟩,xs,q.sq⟩
  | _=>cases e
noncomputable def IsSrc (K : PySem.W.Frag) (m : List Addr) (H : Hp) : Src→It→Prop
  | .rng lo n,J=>J = Itr lo n
  | .tup ds,J=>∃ a xs,J = Itt K a∧SqT K H a xs∧IsDs K m H ds xs
  | .lst d,J=>∃ a,IsRow K m H .lst a d∧J = Itl K a
  | .str z,J=>J = Its z
  | .rgs lo c n,J=>False
  | .zip x y,J=>False
theorem IsSrc.mono {K : PySem.W.Frag} {m m' : List Addr} {H H' : Hp} {s : Src} {J : It} (h : IsSrc K m H s J) (b : Sub m m') (t : Tr H H') : IsSrc K m' H' s J:=by
  cases s with
  | rng lo n=>exact h
  | tup ds=>obtain ⟨a,xs,e,q,r⟩:=h; exact ⟨a,xs,e,t.sqT q,isDs_mono b t ds xs r⟩
  | lst l=>obtain ⟨a,e,q⟩:=h; exact ⟨a,e.mono b t,q⟩
  | str z=>exact h
  | rgs lo c n=>exact h.elim
  | zip _ _=>exact h.elim
theorem IsSrc.done {K : PySem.W.Frag} {m : List Addr} {st : Store} {H : Hp} {s : Src} {J : It} {i : Nat} (h : IsSrc K m H s J) (R0 : Rel K m st H) (e : s.at st i = some none) : J.stop i H:=by
  cases s with
  | rng lo n =>
    cases h
    simp only [Src.at] at e
    split at e
    · cases e
    · rename_i q
      exact Nat.not_lt.mp q
  | rgs lo c n=>exact h.elim
  | tup ds =>
    obtain ⟨a,xs,rfl,q,r⟩:=h
    simp only [Src.at,Option.some.injEq] at e
    exact ⟨xs,q,by rw [← r.length]; exact List.getElem?_eq_none_iff.mp e⟩
  | lst l =>
    obtain ⟨a,ha,rfl⟩:=h
    simp only [Src.at] at e
    obtain ⟨ds,e1,e2⟩:=mapD e
    obtain ⟨xs,q,r⟩:=ha.sq' R0 e1
    exact ⟨xs,q,by rw [← r.length]; exact List.getElem?_eq_none_iff.mp e2⟩
  | str z =>
    cases h
    simp only [Src.at,Option.some.injEq] at e
    have:=List.getElem?_eq_none_iff.mp e
    rw [List.length_map] at this
    exact this
  | zip _ _=>exact h.elim
theorem IsSrc.next {K : PySem.W.Frag} {m : List Addr} {st : Store} {H : Hp} {s : Src} {J : It} {i : Nat} {d : D} (h : IsSrc K m H s J) (R0 : Rel K m st H) (e : s.at st i = some (some d)) : J.go i H∧∀ x H',J.yld i H x H'→Same H H'∧MS.IsD K m H' d x:=by
  cases s with
  | rng lo n =>
    cases h
    simp only [Src.at,Option.some.injEq] at e
    split at e
    · rename_i q
      cases e
      refine ⟨q,?_⟩
      rintro x H' ⟨rfl,rfl⟩
      exact ⟨fun _ _ z=>z,mkInt _⟩
    · cases e
  | rgs lo c n=>exact h.elim
  | tup ds =>
    obtain ⟨a,xs,rfl,q,r⟩:=h
    simp only [Src.at,Option.some.injEq] at e
    obtain ⟨x,ex,ix⟩:=r.get e
    refine ⟨⟨xs,x,q,ex⟩,?_⟩
    rintro y H' ⟨rfl,z⟩
    have:=z xs q
    rw [ex] at this
    cases this
    exact ⟨fun _ _ z=>z,ix⟩
  | lst l =>
    obtain ⟨a,ha,rfl⟩:=h
    simp only [Src.at] at e
    obtain ⟨ds,e1,e2⟩:=mapD e
    obtain ⟨xs,q,r⟩:=ha.sq' R0 e1
    obtain ⟨x,ex,ix⟩:=r.get e2
    refine ⟨⟨xs,x,q,ex⟩,?_⟩
    rintro y H' ⟨rfl,z⟩
    have:=z xs q
    rw [ex] at this
    cases this
    exact ⟨fun _ _ z=>z,ix⟩
  | str z =>
    cases h
    simp only [Src.at,Option.some.injEq] at e
    rw [List.getElem?_map] at e
    cases hc : z.cps.toList[i]? with
    | none=>rw [hc] at e; cases e
    | some c =>
      rw [hc] at e
      cases e
      refine ⟨(List.getElem?_eq_some_iff.mp hc).1,?_⟩
      rintro x H' ⟨rfl,c',hc',rfl⟩
      rw [hc] at hc'
      cases hc'
      exact ⟨fun _ _ w=>w,mkStr _⟩
  | zip _ _=>exact h.elim
noncomputable def tI (K : PySem.W.Frag) (f : Sl→Store→Option (Src × Store)) : TI:=fun σ H R=>∃ m st τ s st',Rel K m st H∧SlotOk K m H τ σ∧f τ st = some (s,st')∧∀ m' H' J,Sub m m'→Tr H H'→Rel K m' st' H'→IsSrc K m' H' s J→R J H'
theorem _root_.L2.PI.imp {X : Cx} {tg e : Expr} {t t' : TI} (h : PI X tg e t) (f : ∀ σ H R,t' σ H R→t σ H R) : PI X tg e t':=fun pins s σ H Q I q=>h pins s σ H Q I (f σ H Q q)
noncomputable def PostO (K : PySem.W.Frag) (m : List Addr) (H : Hp) (o : Out) (st' : Store) (Dn : Ends) : Prop:=∀ m' H',Sub m m'→Tr H H'→Rel K m' st' H'→match o with
  | .nx τ=>∀ σ',SlotOk K m' H' τ σ'→Dn.nx σ' H'
  | .rt d=>∀ v,IsD K m' H' d v→Dn.rt v H'
  | .bk τ=>∀ σ',SlotOk K m' H' τ σ'→Dn.bk σ' H'
  | .ct τ=>∀ σ',SlotOk K m' H' τ σ'→Dn.ct σ' H'
theorem PostO.mono {K : PySem.W.Frag} {m m1 : List Addr} {H H1 : Hp} {o : Out} {st' : Store} {Dn : Ends} (p : PostO K m H o st' Dn) (s : Sub m m1) (t : Tr H H1) : PostO K m1 H1 o st' Dn:=fun m' H' s' t' r=>p m' H' (s.trans s') (t.trans t') r
noncomputable def tS (K : PySem.W.Frag) (f : Sl→Store→Option (Out × Store)) : TS:=fun Dn σ H=>∃ m st τ o st',Rel K m st H∧SlotOk K m H τ σ∧f τ st = some (o,st')∧PostO K m H o st' Dn
structure AllOk (fns : List Fn) (dl n : Nat) : Prop where
  e : ∀ c X,Good fns dl c X→∀ e p,CkE c e p→PE X p (tD X.K fun τ st=>(M.rn fns dl n).ev τ st e)
  t : ∀ c X,Good fns dl c X→∀ e p,CkE c e p→PT X p (tTs X.K fun τ st=>(M.rn fns dl n).tst τ st e)
  w : ∀ c X,Good fns dl c X→∀ e op ps pos,CkE c e (.BoolOp op ps pos)→PW X (.BoolOp op ps pos) (tTs X.K fun τ st=>(M.rn fns dl n).tst τ st e)
  s : ∀ c X,Good fns dl c X→(∀ x,X.fn x = true)→∀ ss ps,CkSs c ss ps→PSs X ps (tS X.K fun τ st=>(M.rn fns dl n).ex τ st ss)
theorem allOk_zero (fns : List Fn) (dl : Nat) : AllOk fns dl 0 where
  e:=fun c X G e p h pins s σ H Q I q=>by obtain ⟨m,st,τ,d,st',_,_,z,_⟩:=q; cases z
  t:=fun c X G e p h pins s σ H Q I q=>by obtain ⟨m,st,τ,d,st',_,_,z,_⟩:=q; cases z
  w:=fun c X G e op ps pos h wh pins s σ H Q I q=>by obtain ⟨m,st,τ,d,st',_,_,z,_⟩:=q; cases z
  s:=fun c X G hf ss ps h pins s σ H Q I q=>by obtain ⟨m,st,τ,d,st',_,_,z,_⟩:=q; cases z
section
variable {fns : List Fn} {dl n : Nat} {c : Ctx} {X : Cx}
theorem args_ok (A : AllOk fns dl n) (G : Good fns dl c X) : ∀ {es : List E} {ps : List Expr},CkEs c es ps→PA X ps (tL X.K fun τ st=>M.evs ((M.rn fns dl n).ev τ) es st)
  | _,_,.nil=>pa_nil.imp fun _ _ _ h=>tL_nil h
  | _,_,.cons (e:=e) (es:=es) h t=>(pa_cons (A.e c X G _ _ h) (args_ok A G t) (h.star _ _)).imp fun _ _ _ q =>
      tL_cons (fa:=fun τ st=>(M.rn fns dl n).ev τ st e) (fr:=fun τ st=>M.evs ((M.rn fns dl n).ev τ) es st) q
theorem iter_ok (A : AllOk fns dl n) (G : Good fns dl c X) {it : E} {tg iter : Expr} (h : CkI c tg it iter) : PI X tg iter (tI X.K fun τ st=>M.src (M.rn fns dl n) τ st it):=by
  have seq : ∀ {e p},CkE c e p→(∀ τ st,M.src (M.rn fns dl n) τ st e = ((M.rn fns dl n).ev τ st e).bind fun p=>match p.1 with
      | .tup ds=>some (.tup ds,p.2)
      | .str z=>if z.cps.all (· < 128) then some (.str z,p.2) else none
      | d=>(M.seqAt p.2 d).map fun _=>(.lst d,p.2))→PI X tg p (tI X.K fun τ st=>M.src (M.rn fns dl n) τ st e):=by
    intro e p he hsrc
    refine (pi_seq (A.e c X G e p he)).imp fun σ H R q=>?_
    obtain ⟨m,st,τ,s,st',R0,S0,e1,q⟩:=q
    have e1:=(hsrc τ st).symm.trans e1
    obtain ⟨d,s1,e2,e1⟩:=bindD e1
    refine ⟨m,st,τ,d,s1,R0,S0,e2,fun x m1 H1 b1 t1 R1 i1=>?_⟩
    cases d with
    | tup ds =>
      cases e1
      obtain ⟨a,xs,rfl,hq,ix⟩:=i1.tup
      exact .inl ⟨a,rfl,.inr ⟨⟨xs,hq⟩,q m1 H1 _ b1 t1 R1 ⟨a,xs,rfl,hq,ix⟩⟩⟩
    | loc l =>
      obtain ⟨ds,e3,e4⟩:=mapD e1
      cases e4
      obtain ⟨a,rfl,ha,xs,hq⟩:=isRow_of' i1 R1 e3
      exact .inl ⟨a,rfl,.inl ⟨⟨xs,hq⟩,q m1 H1 _ b1 t1 R1 ⟨a,ha,rfl⟩⟩⟩
    | lst l =>
      obtain ⟨ds,e3,e4⟩:=mapD e1
      cases e4
      obtain ⟨a,rfl,ha,xs,hq⟩:=isRow_of' i1 R1 e3
      exact .inl ⟨a,rfl,.inl ⟨⟨xs,hq⟩,q m1 H1 _ b1 t1 R1 ⟨a,ha,rfl⟩⟩⟩
    | str z =>
      dsimp only at e1
      split at e1
      · rename_i hz
        cases e1
        exact .inr ⟨z,i1.str,hz,q m1 H1 _ b1 t1 R1 rfl⟩
      · cases e1
    | _=>cases e1
  cases h with
  | @rng1 _ _ a pa p0 pos hg ha =>
    refine (pi_range1 (G.gl hg) G.mo.range (args_ok A G (.cons ha .nil)) (by rw [ha.star]; rfl)).imp fun σ H R q=>?_
    obtain ⟨m,st,τ,s,st',R0,S0,e1,q⟩:=q
    have e1 : (((M.rn fns dl n).ev τ st a).bind fun p=>match p.1 with
      | .int n=>if M.big n then none else some (Src.rng 0 n.toNat,p.2)
      | _=>none) = some (s,st'):=e1
    obtain ⟨d,s1,e2,e1⟩:=bindD e1
    cases d with
    | int k =>
      dsimp only at e1
      split at e1
      · cases e1
      · rename_i hb
        cases e1
        unfold M.big at hb
        simp only [Bool.or_eq_true,decide_eq_true_eq,not_or] at hb
        refine ⟨m,st,τ,[.int k],st',R0,S0,?_,fun xs m1 H1 b1 t1 R1 i1=>?_⟩
        · show (((M.rn fns dl n).ev τ st a).bind fun p=>(some (([] : List D),p.2)).bind fun q=>some (p.1::q.1,q.2)) = _
          rw [e2]; rfl
        · obtain ⟨x,rfl,ix⟩:=i1.one
          cases ix.int
          exact ⟨k,rfl,by omega,by omega,q m1 H1 _ b1 t1 R1 rfl⟩
    | _=>cases e1
  | @seq _ _ e p he =>
    refine seq he fun τ st=>?_
    cases he <;> rfl
theorem po_ok (A : AllOk fns dl n) (G : Good fns dl c X) {o : Option E} {p : Option Expr} (h : CkO c o p) : PO X p (fun σ H Q=>∃ m st τ l st',Rel X.K m st H∧SlotOk X.K m H τ σ∧M.part (M.rn fns dl n) τ st o = some (l,st')∧∀ m' H',Sub m m'→Tr H H'→Rel X.K m' st' H'→Q l H'):=by
  cases h with
  | none =>
    intro pins s σ H Q I q
    obtain ⟨m,st,τ,l,st',R0,S0,e,k⟩:=q
    cases e
    exact po_none pins s σ H Q I (k m H (Sub.refl m) (Tr.refl H) R0)
  | @some _ e p h =>
    intro pins s σ H Q I q
    obtain ⟨m,st,τ,l,st',R0,S0,e0,k⟩:=q
    have e0 : (((M.rn fns dl n).ev τ st e).bind fun p=>match p.1 with
      | .int i=>some (some i,p.2)
      | _=>none) = some (l,st'):=e0
    obtain ⟨d,s1,e1,e2⟩:=bindD e0
    cases d with
    | int i =>
      cases e2
      exact po_some (A.e c X G e p h) pins s σ H Q I ⟨m,st,τ,.int i,s1,R0,S0,e1,fun v m' H' b t R1 iv=>⟨i,iv.int,k m' H' b t R1⟩⟩
    | _=>cases e2
noncomputable def gIs : List Nat→TGs
  | []=>gNil
  | i::is=>gCons (gName i) (gIs is)
noncomputable def gT (K : PySem.W.Frag) : T→TG
  | .var i=>gName i
  | .tup is=>gTup K is.length (gIs is)
theorem gIs_of {K : PySem.W.Frag} {m : List Addr} {H : Hp} {Q : L2.St→Hp→Prop} : ∀ {is : List Nat} {ds : List D} {xs : List V} {τ τ' : Sl} {σ : L2.St},IsDs K m H ds xs→SlotOk K m H τ σ→M.setIs is ds τ = some τ'→(∀ σ',SlotOk K m H τ' σ'→Q σ' H)→gIs is xs σ H Q
  | [],[],xs,τ,τ',σ,ix,S0,e,k=>by
    cases e
    exact ⟨ix.nil,k σ S0⟩
  | i::is,d::ds,xs,τ,τ',σ,ix,S0,e,k=>by
    obtain ⟨x,r,rfl,q,t⟩:=ix.cons
    unfold M.setIs at e
    split at e
    · exact ⟨x,r,rfl,gIs_of t (S0.put q) e k⟩
    · cases e
  | [],_::_,_,_,_,_,_,_,e,_=>by cases e
  | _::_,[],_,_,_,_,_,_,e,_=>by cases e
theorem setIs_len : ∀ {is : List Nat} {ds : List D} {τ τ' : Sl},M.setIs is ds τ = some τ'→is.length = ds.length
  | [],[],_,_,_=>rfl
  | i::is,d::ds,τ,τ',e=>by
    unfold M.setIs at e
    split at e
    · rw [List.length_cons,List.length_cons,setIs_len e]
    · cases e
  | [],_::_,_,_,e=>by cases e
  | _::_,[],_,_,e=>by cases e
theorem gT_of {K : PySem.W.Frag} {m : List Addr} {H : Hp} {Q : L2.St→Hp→Prop} {t : T} {d : D} {v : V} {τ τ' : Sl} {σ : L2.St} (iv : IsD K m H d v) (S0 : SlotOk K m H τ σ) (e : M.setT t d τ = some τ') (k : ∀ σ',SlotOk K m H τ' σ'→Q σ' H) : gT K t v σ H Q:=by
  cases t with
  | var i =>
    have e : (if i < τ.length then some (τ.set i (some d)) else none) = some τ':=e
    split at e
    · cases e
      exact k _ (S0.put iv)
    · cases e
  | tup is =>
    cases d with
    | tup ds =>
      obtain ⟨a,xs,rfl,hq,ix⟩:=iv.tup
      have e : M.setIs is ds τ = some τ':=e
      exact ⟨a,xs,rfl,hq,by rw [← ix.length,setIs_len e],gIs_of ix S0 e k⟩
    | _=>cases e
theorem var_of (G : Good fns dl c X) {i : Nat} {x : Str} (h : c.N[i]? = some x) : X.N[i]? = some x:=by rw [G.N]; exact h
theorem boot_all' : bootBuiltins ("all" : Str) = some (.builtin "all"):=by decide +kernel
theorem boot_int' : bootBuiltins ("int" : Str) = some (.type "int"):=by decide +kernel
theorem boot_bool' : bootBuiltins ("bool" : Str) = some (.type "bool"):=by decide +kernel
theorem boot_str' : bootBuiltins ("str" : Str) = some (.type "str"):=by decide +kernel
theorem boot_isi' : bootBuiltins ("isinstance" : Str) = some (.builtin "isinstance"):=by decide +kernel
theorem boot_sorted' : bootBuiltins ("sorted" : Str) = some (.builtin "sorted"):=by decide +kernel
theorem boot_len' : bootBuiltins ("len" : Str) = some (.builtin "len"):=by decide +kernel
theorem boot_min' : bootBuiltins ("min" : Str) = some (.builtin "min"):=by decide +kernel
theorem boot_max' : bootBuiltins ("max" : Str) = some (.builtin "max"):=by decide +kernel
theorem boot_list' : bootBuiltins ("list" : Str) = some (.type "list"):=by decide +kernel
theorem boot_tuple' : bootBuiltins ("tuple" : Str) = some (.type "tuple"):=by decide +kernel
theorem ty_ok (G : Good fns dl c X) {t : M.Ty} {pos : Pos} (ht : t ≠ .non) (hg : c.sc.names.lookup (Str.ofString t.name) = some .globalImplicit) : PE X (.Name (Str.ofString t.name) pos) (tC (.ty t.name)):=by
  cases t with
  | non=>exact absurd rfl ht
  | bl=>exact pe_bltn (G.gl hg) G.mo.bool boot_bool' rfl (by decide) (by decide)
  | int=>exact pe_bltn (G.gl hg) G.mo.int boot_int' rfl (by decide) (by decide)
  | str=>exact pe_bltn (G.gl hg) G.mo.str boot_str' rfl (by decide) (by decide)
  | tup=>exact pe_bltn (G.gl hg) G.mo.tuple boot_tuple' rfl (by decide) (by decide)
  | lst=>exact pe_bltn (G.gl hg) G.mo.list boot_list' rfl (by decide) (by decide)
noncomputable def tCs : List V→TA
  | []=>tNil
  | v::vs=>tCons (tC v) (tCs vs)
theorem tCs_end : ∀ (vs : List V) (σ : L2.St) (H : Hp) (Q : List V→Hp→Prop),Q vs H→tCs vs σ H Q
  | [],_,_,_,h=>h
  | v::vs,σ,H,Q,h=>tCs_end vs σ H (fun xs H2=>Q (v::xs) H2) h
theorem tys_ok (G : Good fns dl c X) : ∀ {ts : List M.Ty} {ps : List Expr},CkTys c ts ps→PA X ps (tCs (ts.map fun t=>V.ty t.name))∧∀ t ∈ ts,t ≠ .non
  | _,_,.nil=>⟨pa_nil,fun _ h=>nomatch h⟩
  | _,_,.cons ht hg h=>by
    obtain ⟨h1,h2⟩:=tys_ok G h
    refine ⟨pa_cons (ty_ok G ht hg) h1 rfl,fun t hm=>?_⟩
    rcases List.mem_cons.mp hm with z | z
    · rw [z]; exact ht
    · exact h2 t z
end
end MS
end
section
set_option linter.all false
set_option Elab.async false
set_option maxRecDepth 100000
set_option maxHeartbeats 4000000
namespace MS
open PySem PySem.Spec PyProof.Rows L2
open M (D Cell Store Sl E S T Src Fn Out R)
section
variable {fns : List Fn} {dl n : Nat} {c : Ctx} {X : Cx}
theorem comp_scope (G : Good fns dl c X) {N : List Str} {sr : List (Option Nat)} {scope : Scope} (hk : scope.kind = .function) (hcell : ∀ y ∈ scope.names,y.2 ≠ .cell) (hfree : ∀ y ∈ scope.names,y.2 = .free→c.sc.names.lookup y.1 = some .cell∨c.sc.names.lookup y.1 = some .free)
    (hloc : ∀ y ∈ scope.names,y.2 = .local→scope.names.lookup y.1 = some .local) (hlen : sr.length = N.length) (hsrc : ∀ (j i : Nat),sr[j]? = some (some i)→∃ x,N[j]? = some x∧c.N[i]? = some x∧scope.names.lookup x = some .free) : CompScope X N sr scope :=
  ⟨hk,hcell,fun y hy hf=>by
    have:=hfree y hy hf
    show X.env.scope.names.lookup y.1 = _∨X.env.scope.names.lookup y.1 = _
    rw [G.sc]; exact this,hloc,hlen,fun j i h=>by
    obtain ⟨x,a,b,d⟩:=hsrc j i h
    exact ⟨x,a,var_of G b,d⟩⟩
theorem inner_ok {K : PySem.W.Frag} {m : List Addr} {H : Hp} {τ : Sl} {σ : L2.St} (sr : List (Option Nat)) (h : SlotOk K m H τ σ) : SlotOk K m H (M.inner sr τ) (innerS sr σ):=by
  refine ⟨by unfold M.inner innerS; rw [List.length_map,List.length_map],fun j d e=>?_⟩
  unfold M.inner at e
  rw [List.getElem?_map] at e
  unfold innerS
  rw [List.getElem?_map]
  cases q : sr[j]? with
  | none=>rw [q] at e; cases e
  | some o =>
    rw [q] at e
    cases o with
    | none=>cases e
    | some i =>
      have hi : τ[i]? = some (some d):=by
        cases z : τ[i]? with
        | none=>simp [z] at e
        | some w =>
          cases w with
          | none=>simp [z] at e
          | some w=>simpa [z] using e
      obtain ⟨v,a,b⟩:=h.at_ i d hi
      refine ⟨v,?_,b⟩
      simp [a]
theorem tD_comp {K : PySem.W.Frag} {r : R} {t : T} {it elt : E} {q : Option E} {sr : List (Option Nat)} {tt : TT} {σ : L2.St} {H : Hp} {Q : VK}
    (htt : ∀ σ H (Q : Bool→Hp→Prop),(match q with
      | none=>Q true H
      | some c=>tTs K (fun τ st=>r.tst τ st c) σ H Q)→tt σ H Q)
    (h : tD K (fun τ st=>M.stepEv r τ st (.comp t it q elt sr)) σ H Q) :
    tComp sr (tI K fun τ st=>M.src r τ st it) (gT K t) tt (tD K fun τ st=>r.ev τ st elt) σ H Q:=by
  obtain ⟨m,st,τ,d,st',R0,S0,e,post⟩:=h
  have e : ((M.src r τ st it).bind fun p=>(M.loopC p.1 (M.turnC r t q elt) (p.1.size p.2 + 1) 0 [] (M.inner sr τ) p.2).map fun q=>M.alloc q.2 (.lst true q.1)) = some (d,st'):=e
  obtain ⟨p,e1,e⟩:=bindO e
  obtain ⟨res,e2,e3⟩:=mapD e
  refine ⟨m,st,τ,p.1,p.2,R0,S0,e1,fun m1 H1 J b1 t1 R1 hJ=>?_⟩
  refine ⟨fun i' k acc σ' H'=>∃ m2 st2 τ2 accD,Sub m1 m2∧Tr H1 H'∧Rel K m2 st2 H'∧SlotOk K m2 H' τ2 σ'∧IsDs K m2 H' accD acc∧M.loopC p.1 (M.turnC r t q elt) k i' accD τ2 st2 = some res,
    ⟨_,m1,p.2,M.inner sr τ,[],Sub.refl _,Tr.refl _,R1,inner_ok sr (S0.mono b1 t1),mkNil,e2⟩,?_⟩
  rintro j k acc σ' H' ⟨m2,st2,τ2,accD,b2,t2,R2,S2,ia,e4⟩
  cases k with
  | zero=>cases e4
  | succ k =>
    have e4 : (p.1.at st2 j).bind (fun o=>match o with
      | none=>if M.lim < accD.length then none else some (accD,st2)
      | some d=>if M.lim ≤ accD.length then none else (M.turnC r t q elt τ2 st2 d).bind fun z=>M.loopC p.1 (M.turnC r t q elt) k (j + 1) (match z.1 with | some x=>accD++[x] | none=>accD) z.2.1 z.2.2) = some res:=e4
    obtain ⟨o,e5,e4⟩:=bindO e4
    have l1:=ia.length
    have l2:=lim_eq
    cases o with
    | none =>
      dsimp only at e4
      split at e4
      · cases e4
      · rename_i hl
        cases e4
        refine .inl ⟨(hJ.mono b2 t2).done R2 e5,by omega,fun pp hp=>?_⟩
        cases e3
        exact post _ (m2++[pp]) _ (b1.trans (b2.trans (Sub.app _ _))) (t1.trans (t2.trans (Tr.of_same (same_new hp)))) (R2.new hp ia) R2.newLoc
    | some d' =>
      dsimp only at e4
      split at e4
      · cases e4
      · rename_i hl
        obtain ⟨hgo,hy⟩:=(hJ.mono b2 t2).next R2 e5
        refine .inr ⟨hgo,by omega,fun x H2 hyl=>?_⟩
        obtain ⟨sm,ix⟩:=hy x H2 hyl
        have t2:=t2.trans (Tr.of_same sm)
        have R2:=R2.same sm
        have S2:=S2.mono (Sub.refl _) (Tr.of_same sm)
        have ia:=isDs_mono (Sub.refl _) (Tr.of_same sm) _ _ ia
        obtain ⟨z,e6,e4⟩:=bindO e4
        unfold M.turnC at e6
        obtain ⟨τ3,e7,e6⟩:=bindO e6
        refine gT_of ix S2 e7 fun σ3 S3=>?_
        · refine htt _ _ _ ?_
          cases q with
          | none =>
            dsimp only at e6 ⊢
            obtain ⟨y,e8,e9⟩:=mapD e6
            cases e9
            rw [if_pos rfl]
            refine ⟨m2,st2,_,y.1,y.2,R2,S3,e8,fun v m3 H3 b3 t3 R3 i3=>⟨k,Nat.lt_succ_self k,m3,y.2,_,accD++[y.1],b2.trans b3,t2.trans t3,R3,S3.mono b3 t3,(isDs_mono b3 t3 _ _ ia).append (mkCons i3 mkNil),e4⟩⟩
          | some cq =>
            dsimp only at e6 ⊢
            obtain ⟨bb,e8,e6⟩:=bindO e6
            refine ⟨m2,st2,_,bb.1,bb.2,R2,S3,e8,fun m3 H3 b3 t3 R3=>?_⟩
            cases hb : bb.1 with
            | true =>
              rw [hb,if_pos rfl] at e6
              rw [if_pos rfl]
              obtain ⟨y,e9,e10⟩:=mapD e6
              cases e10
              refine ⟨m3,bb.2,_,y.1,y.2,R3,S3.mono b3 t3,e9,fun v m4 H4 b4 t4 R4 i4=>⟨k,Nat.lt_succ_self k,m4,y.2,_,accD++[y.1],b2.trans (b3.trans b4),t2.trans (t3.trans t4),R4,S3.mono (b3.trans b4) (t3.trans t4),(isDs_mono (b3.trans b4) (t3.trans t4) _ _ ia).append (mkCons i4 mkNil),e4⟩⟩
            | false =>
              rw [hb,if_neg Bool.false_ne_true] at e6
              cases e6
              rw [if_neg Bool.false_ne_true]
              exact ⟨k,Nat.lt_succ_self k,m3,bb.2,_,accD,b2.trans b3,t2.trans t3,R3,S3.mono b3 t3,isDs_mono b3 t3 _ _ ia,e4⟩
theorem targets_ok (G : Good fns dl c X) : ∀ {is : List Nat} {es : List Expr},CkTs c is es→(∀ i ∈ is,∀ x,c.N[i]? = some x→X.fn x = true∨c.sc.names.lookup x = some .local)→PGs X es (gIs is)∧(assignEach es X.env).length = is.length∧(assignEach es X.env).findIdx? (·.1) = none
  | _,_,.nil,_=>⟨pgs_nil,rfl,rfl⟩
  | _,_,.cons (i:=i) (x:=x) (pos:=pos) (is:=is) (es:=es) hN hl h,hf=>by
    obtain ⟨h1,h2,h3⟩:=targets_ok G h fun j hj=>hf j (List.mem_cons_of_mem _ hj)
    have hg : PG X (.Name x pos) (gName i):=pg_name (by rw [G.N]; exact G.nd) (var_of G hN) (by show X.env.scope.names.lookup x = _∨_ = _; rw [G.sc]; exact hl) (by rw [G.sc]; exact hf i List.mem_cons_self x hN)
    refine ⟨pgs_cons hg h1 rfl,?_,?_⟩
    · show (assignEach es X.env).length + 1 = is.length + 1
      rw [h2]
    · show List.findIdx? (·.1) ((false,assign (.Name x pos) X.env)::assignEach es X.env) = none
      rw [List.findIdx?_cons,h3]
      rfl
theorem target_ok (G : Good fns dl c X) {t : T} {tg : Expr} (h : CkT c t tg) (hf : ∀ i ∈ t.slots,∀ x,c.N[i]? = some x→X.fn x = true∨c.sc.names.lookup x = some .local) : PG X tg (gT X.K t):=by
  cases h with
  | @var i x pos hN hl=>exact pg_name (by rw [G.N]; exact G.nd) (var_of G hN) (by show X.env.scope.names.lookup x = _∨_ = _; rw [G.sc]; exact hl) (by rw [G.sc]; exact hf i (by simp [T.slots]) x hN)
  | @tup is es k pos h =>
    obtain ⟨h1,h2,h3⟩:=targets_ok G h hf
    exact pg_tup G.calm h1 h2 h3
noncomputable def trsOf (r : R) (K : PySem.W.Frag) : List E→List (TE × TE)
  | k::v::es=>(tD K fun τ st=>r.ev τ st k,tD K fun τ st=>r.ev τ st v)::trsOf r K es
  | _=>[]
noncomputable def twos : List V→List (V × V)
  | x::y::r=>(x,y)::twos r
  | _=>[]
theorem pairs_pps (A : AllOk fns dl n) (G : Good fns dl c X) {pos : Pos} : ∀ {es : List E} {ks : List (Option Expr)} {vs : List Expr},CkP c es ks vs→PPs X pos ks vs (trsOf (M.rn fns dl n) X.K es)∧ks.all (·.isSome) = true∧ks.length = vs.length
  | _,_,_,.nil=>⟨pps_nil,rfl,rfl⟩
  | _,_,_,.cons hk hv t=>by
    obtain ⟨h1,h2,h3⟩:=pairs_pps A G (pos:=pos) t
    refine ⟨pps_cons (A.e c X G _ _ hk) (A.e c X G _ _ hv) h1,?_,?_⟩
    · rw [List.all_cons,h2]; rfl
    · rw [List.length_cons,List.length_cons,h3]
theorem pairs_run {r : R} {K : PySem.W.Frag} : ∀ {es : List E} {ks : List (Option Expr)} {vs : List Expr} {c : Ctx} {m : List Addr} {st st' : Store} {H : Hp} {τ : Sl} {σ : L2.St} {ds : List D} {Q : List (V × V)→Hp→Prop},CkP c es ks vs→Rel K m st H→SlotOk K m H τ σ→M.evs (r.ev τ) es st = some (ds,st') →
    (∀ xs m' H',Sub m m'→Tr H H'→Rel K m' st' H'→IsDs K m' H' ds xs→Q (twos xs) H')→tPairs (trsOf r K es) σ H Q
  | _,_,_,c,m,st,st',H,τ,σ,ds,Q,.nil,R0,S0,e,q=>by
    cases e
    exact q [] m H (Sub.refl m) (Tr.refl H) R0 mkNil
  | _,_,_,c,m,st,st',H,τ,σ,ds,Q,.cons (k:=k) (v:=v) (es:=es) hk hv t,R0,S0,e,q=>by
    have e : ((r.ev τ st k).bind fun p=>((r.ev τ p.2 v).bind fun p'=>(M.evs (r.ev τ) es p'.2).bind fun q=>some (p'.1::q.1,q.2)).bind fun q=>some (p.1::q.1,q.2)) = some (ds,st'):=e
    obtain ⟨d1,s1,e1,e⟩:=bindD e
    obtain ⟨w,e2,e⟩:=bindO e
    obtain ⟨d2,s2,e3,e2⟩:=bindD e2
    obtain ⟨u,e4,e2⟩:=bindO e2
    cases e2
    cases e
    refine ⟨m,st,τ,d1,s1,R0,S0,e1,fun x m1 H1 b1 t1 R1 i1=>⟨m1,s1,τ,d2,s2,R1,S0.mono b1 t1,e3,fun y m2 H2 b2 t2 R2 i2=>?_⟩⟩
    refine pairs_run t R2 (S0.mono (b1.trans b2) (t1.trans t2)) e4 fun xs m3 H3 b3 t3 R3 ix=>?_
    exact q (x::y::xs) m3 H3 (b1.trans (b2.trans b3)) (t1.trans (t2.trans t3)) R3 (mkCons (isD_mono (b2.trans b3) (t2.trans t3) _ _ i1) (mkCons (isD_mono b3 t3 _ _ i2) ix))
theorem pairs_kv {K : PySem.W.Frag} {m : List Addr} {H : Hp} : ∀ {ds : List D} {xs : List V} {kvs : List (D × D)},IsDs K m H ds xs→M.pairUp ds = some kvs→∃ ys : List (Key × V),IsKV K m H kvs ys∧twos xs = ys.map fun kv=>(kV kv.1,kv.2)
  | [],xs,kvs,ix,e=>by
    cases e
    rw [ix.nil]
    exact ⟨[],rfl,rfl⟩
  | [d],xs,kvs,ix,e=>by cases e
  | d::d'::ds,xs,kvs,ix,e=>by
    have e : (if M.isKey d then (M.pairUp ds).map ((d,d')::·) else none) = some kvs:=e
    split at e
    · rename_i hk
      obtain ⟨kr,e1,e2⟩:=mapD e
      subst e2
      obtain ⟨x,xr,rfl,i1,i2⟩:=ix.cons
      obtain ⟨y,yr,rfl,i3,i4⟩:=i2.cons
      obtain ⟨k,hk1⟩:=key_of hk
      have hx:=key_V hk1 i1
      subst hx
      obtain ⟨ys,h1,h2⟩:=pairs_kv i4 e1
      refine ⟨(k,y)::ys,⟨k,y,ys,rfl,hk1,i3,h1⟩,?_⟩
      show (kV k,y)::twos yr = _
      rw [h2]
      rfl
    · cases e
theorem e_ok (A : AllOk fns dl n) (G' : Good fns dl c X) {e : E} {p : Expr} (h : CkE c e p) : PE X p (tD X.K fun τ st=>M.stepEv (M.rn fns dl n) τ st e):=by
  have G:=G'
  have hu : X.A.units + 64 < cLine:=G'.room.units
  cases h with
  | @var _ i x pos hN hv hd hcd =>
    refine (pe_var (var_of G hN) (by rw [G.sc]; exact hv) hd hcd).imp fun σ H Q h=>?_
    obtain ⟨m,st,τ,d,st',R0,S0,e,q⟩:=h
    simp only [M.stepEv] at e
    split at e
    · rename_i d' hd'
      cases e
      obtain ⟨v,a,b⟩:=S0.at_ i d hd'
      exact ⟨v,a,q.here R0 b⟩
    · cases e
  | int=>exact pe_int.imp fun σ H Q ⟨m,st,τ,d,st',R0,S0,e,q⟩=>by cases e; exact q.here R0 (mkInt _)
  | bl=>exact pe_bl.imp fun σ H Q ⟨m,st,τ,d,st',R0,S0,e,q⟩=>by cases e; exact q.here R0 (mkBl _)
  | non=>exact pe_non.imp fun σ H Q ⟨m,st,τ,d,st',R0,S0,e,q⟩=>by cases e; exact q.here R0 mkNon
  | str=>exact pe_str.imp fun σ H Q ⟨m,st,τ,d,st',R0,S0,e,q⟩=>by cases e; exact q.here R0 (mkStr _)
  | @glo _ x d pos hg hm hd =>
    obtain ⟨u,v,h1,h2,h3⟩:=G.mo.glo x d hm
    exact (pe_glob (G.gl hg) h1 h2 hd).imp fun σ H Q ⟨m,st,τ,d,st',R0,S0,e,q⟩=>by cases e; exact q.here R0 (h3 m H)
  | @bin _ op a b pa pb pos ha hb =>
    exact (pe_op (op_binD op) (A.e c X G a pa ha) (A.e c X G b pb hb)).imp fun σ H Q h=>tD_bin (fa:=fun τ st=>(M.rn fns dl n).ev τ st a) (fb:=fun τ st=>(M.rn fns dl n).ev τ st b) (g:=fun st x y=>M.binop st op x y) h
  | @not _ a pa pos ha =>
    refine (pe_not (A.e c X G a pa ha)).imp fun σ H Q h=>?_
    obtain ⟨m,st,τ,d,st',R0,S0,e,q⟩:=h
    obtain ⟨d1,s1,e1,e⟩:=bindD e
    refine ⟨m,st,τ,d1,s1,R0,S0,e1,fun v m1 H1 b1 t1 R1 i1=>?_⟩
    cases d1 with
    | bl k =>
      cases e
      exact ⟨k,i1.bl,q _ m1 H1 b1 t1 R1 (mkBl _)⟩
    | _=>cases e
  | @cmp _ op a b pa pb pos ha hb hm =>
    exact (pe_cmpR (op_cmpD hu op) (A.e c X G a pa ha) (A.e c X G b pb hb) hm).imp fun σ H Q h=>tD_bin (fa:=fun τ st=>(M.rn fns dl n).ev τ st a) (fb:=fun τ st=>(M.rn fns dl n).ev τ st b) (g:=fun st x y=>(M.cmpD st op x y).map fun k=>(.bl k,st)) h
  | @and2 _ a b pa pb pos ha hb =>
    refine (pe_and (A.e c X G a pa ha) (pe_one (A.e c X G b pb hb))).imp fun σ H Q h=>?_
    obtain ⟨m,st,τ,d,st',R0,S0,e,q⟩:=h
    obtain ⟨d1,s1,e1,e⟩:=bindD e
    refine ⟨m,st,τ,d1,s1,R0,S0,e1,fun v m1 H1 b1 t1 R1 i1=>?_⟩
    cases d1 with
    | bl k =>
      cases k with
      | true=>exact ⟨true,i1.bl,by rw [if_pos rfl]; exact ⟨m1,s1,τ,d,st',R1,S0.mono b1 t1,e,q.mono b1 t1⟩⟩
      | false=>cases e; exact ⟨false,i1.bl,by rw [if_neg Bool.false_ne_true]; exact q _ m1 H1 b1 t1 R1 (mkBl _)⟩
    | _=>cases e
  | @andN _ a b pa pb pd r pos ha hb =>
    refine (pe_and (A.e c X G a pa ha) (A.e c X G b _ hb)).imp fun σ H Q h=>?_
    obtain ⟨m,st,τ,d,st',R0,S0,e,q⟩:=h
    obtain ⟨d1,s1,e1,e⟩:=bindD e
    refine ⟨m,st,τ,d1,s1,R0,S0,e1,fun v m1 H1 b1 t1 R1 i1=>?_⟩
    cases d1 with
    | bl k =>
      cases k with
      | true=>exact ⟨true,i1.bl,by rw [if_pos rfl]; exact ⟨m1,s1,τ,d,st',R1,S0.mono b1 t1,e,q.mono b1 t1⟩⟩
      | false=>cases e; exact ⟨false,i1.bl,by rw [if_neg Bool.false_ne_true]; exact q _ m1 H1 b1 t1 R1 (mkBl _)⟩
    | _=>cases e
  | @or2 _ a b pa pb pos ha hb =>
    refine (pe_or (A.e c X G a pa ha) (pe_one (A.e c X G b pb hb))).imp fun σ H Q h=>?_
    obtain ⟨m,st,τ,d,st',R0,S0,e,q⟩:=h
    obtain ⟨d1,s1,e1,e⟩:=bindD e
    refine ⟨m,st,τ,d1,s1,R0,S0,e1,fun v m1 H1 b1 t1 R1 i1=>?_⟩
    cases d1 with
    | bl k =>
      cases k with
      | false=>exact ⟨false,i1.bl,by rw [if_neg Bool.false_ne_true]; exact ⟨m1,s1,τ,d,st',R1,S0.mono b1 t1,e,q.mono b1 t1⟩⟩
      | true=>cases e; exact ⟨true,i1.bl,by rw [if_pos rfl]; exact q _ m1 H1 b1 t1 R1 (mkBl _)⟩
    | _=>cases e
  | @ite _ q a b pq pa pb pos hq ha hb =>
    refine (pe_ifExp (A.t c X G q pq hq) (A.e c X G a pa ha) (A.e c X G b pb hb)).imp fun σ H Q h=>?_
    obtain ⟨m,st,τ,d,st',R0,S0,e,post⟩:=h
    obtain ⟨bb,e1,e⟩:=bindO e
    refine ⟨m,st,τ,bb.1,bb.2,R0,S0,e1,fun m1 H1 b1 t1 R1=>?_⟩
    cases hb : bb.1 with
    | true =>
      rw [hb,if_pos rfl] at e
      rw [if_pos rfl]
      exact ⟨m1,bb.2,τ,d,st',R1,S0.mono b1 t1,e,post.mono b1 t1⟩
    | false =>
      rw [hb,if_neg Bool.false_ne_true] at e
      rw [if_neg Bool.false_ne_true]
      exact ⟨m1,bb.2,τ,d,st',R1,S0.mono b1 t1,e,post.mono b1 t1⟩
  | @tup _ es ps k pos hs =>
    refine (pe_tup (args_ok A G hs)).imp fun σ H Q h=>?_
    obtain ⟨m,st,τ,d,st',R0,S0,e,post⟩:=h
    obtain ⟨p,e1,e⟩:=bindO e
    split at e
    · cases e
    · rename_i hl
      cases e
      refine ⟨m,st,τ,p.1,p.2,R0,S0,e1,fun xs m1 H1 b1 t1 R1 ix=>?_⟩
      have l1:=ix.length
      have l2:=lim_eq
      refine ⟨by omega,fun pp hp=>?_⟩
      have sm:=same_new (o:=.tup xs) hp
      exact post _ m1 _ b1 (t1.trans (Tr.of_same sm)) (R1.same sm) (mkTup (SqT.of upd_same) (isDs_mono (Sub.refl _) (Tr.of_same sm) _ _ ix))
  | @lst _ es ps pos hs =>
    refine (pe_lst (args_ok A G hs)).imp fun σ H Q h=>?_
    obtain ⟨m,st,τ,d,st',R0,S0,e,post⟩:=h
    obtain ⟨p,e1,e⟩:=bindO e
    split at e
    · cases e
    · rename_i hl
      cases e
      refine ⟨m,st,τ,p.1,p.2,R0,S0,e1,fun xs m1 H1 b1 t1 R1 ix=>?_⟩
      have l1:=ix.length
      have l2:=lim_eq
      refine ⟨by omega,fun pp hp=>?_⟩
      exact post _ (m1++[pp]) _ (b1.trans (Sub.app _ _)) (t1.trans (Tr.of_same (same_new hp))) (R1.new hp ix) R1.newLoc
  | @idx _ a b pa pb pos ha hb hs =>
    exact (pe_ix ix_D (A.e c X G a pa ha) (A.e c X G b pb hb) hs).imp fun σ H Q h=>tD_bin (fa:=fun τ st=>(M.rn fns dl n).ev τ st a) (fb:=fun τ st=>(M.rn fns dl n).ev τ st b) (g:=fun st x y=>(M.idxD st x y).map fun d=>(d,st)) h
  | @call _ f x es p ps p0 pos hg hf hd hs =>
    obtain ⟨fa,fd,pars,hm,F,hk,hb⟩:=G'.tab f x hf
    have hp : Star p:=by cases hs with | cons h _=>exact h.star
    have ht : (backTo pos (starEach ps X.env)).any (·.1) = false:=by cases hs with | cons _ t=>exact noStars t pos X.env
    refine (pe_call F G.room (G.gl hg) hm hk hb .nil pass0 (args_ok A G hs) hd (hp _ _) ht).imp fun σ H Q h=>?_
    obtain ⟨m,st,τ,d,st',R0,S0,e,post⟩:=h
    obtain ⟨q,e1,e⟩:=bindO e
    refine ⟨m,st,τ,q.1,q.2,R0,S0,e1,fun xs m1 H1 b1 t1 R1 ix=>?_⟩
    show spN X.K fns dl f (xs++[]) H1 Q E0
    have e : (M.rn fns dl n).call f q.1 q.2 = some (d,st'):=e
    rw [M.runK_call] at e
    rw [List.append_nil]
    exact ⟨m1,q.2,q.1,d,st',R1,ix,e,post.mono b1 t1⟩
  | @bcall _ b es p ps p0 pos hg hs =>
    have hp : Star p:=by cases hs with | cons h _=>exact h.star
    have ht : (backTo pos (starEach ps X.env)).any (·.1) = false:=by cases hs with | cons _ t=>exact noStars t pos X.env
    have hA:=args_ok A G hs
    cases b with
    | len=>exact (pe_callB call_lenD (G.gl hg) G.mo.len boot_len' hA (by decide) (by decide) (hp _ _) ht).imp fun σ H Q h=>tL_call (fa:=fun τ st=>M.evs ((M.rn fns dl n).ev τ) es st) (g:=M.bLen) h
    | min=>exact (pe_callB (call_minD G.calm) (G.gl hg) G.mo.min boot_min' hA (by decide) (by decide) (hp _ _) ht).imp fun σ H Q h=>tL_call (fa:=fun τ st=>M.evs ((M.rn fns dl n).ev τ) es st) (g:=M.bMin) h
    | max=>exact (pe_callB (call_maxD G.calm) (G.gl hg) G.mo.max boot_max' hA (by decide) (by decide) (hp _ _) ht).imp fun σ H Q h=>tL_call (fa:=fun τ st=>M.evs ((M.rn fns dl n).ev τ) es st) (g:=M.bMax) h
    | tuple=>exact (pe_callTy call_tupleD (G.gl hg) G.mo.tuple boot_tuple' hA (by decide) (by decide) (hp _ _) ht).imp fun σ H Q h=>tL_call (fa:=fun τ st=>M.evs ((M.rn fns dl n).ev τ) es st) (g:=M.bTuple) h
    | list=>exact (pe_callTy call_listD (G.gl hg) G.mo.list boot_list' hA (by decide) (by decide) (hp _ _) ht).imp fun σ H Q h=>tL_call (fa:=fun τ st=>M.evs ((M.rn fns dl n).ev τ) es st) (g:=M.bList) h
    | all=>exact (pe_callB (call_allD G.calm) (G.gl hg) G.mo.all boot_all' hA (by decide) (by decide) (hp _ _) ht).imp fun σ H Q h=>tL_call (fa:=fun τ st=>M.evs ((M.rn fns dl n).ev τ) es st) (g:=M.bAll) h
    | int=>exact (pe_callTy call_intD (G.gl hg) G.mo.int boot_int' hA (by decide) (by decide) (hp _ _) ht).imp fun σ H Q h=>tL_call (fa:=fun τ st=>M.evs ((M.rn fns dl n).ev τ) es st) (g:=M.bInt) h
    | str=>exact (pe_callTy call_strD (G.gl hg) G.mo.str boot_str' hA (by decide) (by decide) (hp _ _) ht).imp fun σ H Q h=>tL_call (fa:=fun τ st=>M.evs ((M.rn fns dl n).ev τ) es st) (g:=M.bStr) h
    | sorted=>exact (pe_callB call_sortedD (G.gl hg) G.mo.sorted boot_sorted' hA (by decide) (by decide) (hp _ _) ht).imp fun σ H Q h=>tL_call (fa:=fun τ st=>M.evs ((M.rn fns dl n).ev τ) es st) (g:=M.bSorted) h
  | @isi1 _ t a pa p0 p1 pos hg ht hgt ha =>
    refine (pe_callB (call_isi1 t ht) (G.gl hg) G.mo.isinstance boot_isi' (pa_cons (A.e c X G a pa ha) (pa_cons (ty_ok G ht hgt) pa_nil rfl) (ha.star _ _)) (by decide) (by decide) (ha.star _ _) rfl).imp fun σ H Q h=>?_
    obtain ⟨m,st,τ,d,st',R0,S0,e,post⟩:=h
    obtain ⟨d1,s1,e1,e⟩:=bindD e
    obtain ⟨nm,e2,e3⟩:=mapD e
    cases e3
    refine ⟨m,st,τ,d1,s1,R0,S0,e1,fun x m1 H1 b1 t1 R1 ix=>?_⟩
    refine ⟨m1,s1,d1,nm,x,rfl,R1,ix,e2,post _ m1 H1 b1 t1 R1 ?_⟩
    have : ([t].any fun t=>M.tyIs t nm) = M.tyIs t nm:=by simp
    rw [this]
    exact mkBl _
  | @isiN _ ts a pa p0 ps k p1 pos hlen hg ht ha =>
    obtain ⟨h1,h2⟩:=tys_ok G ht
    refine (pe_callB (call_isiN ts h2) (G.gl hg) G.mo.isinstance boot_isi' (pa_cons (A.e c X G a pa ha) (pa_cons (pe_tup h1) pa_nil rfl) (ha.star _ _)) (by decide) (by decide) (ha.star _ _) rfl).imp fun σ H Q h=>?_
    obtain ⟨m,st,τ,d,st',R0,S0,e,post⟩:=h
    obtain ⟨d1,s1,e1,e⟩:=bindD e
    obtain ⟨nm,e2,e3⟩:=mapD e
    cases e3
    refine ⟨m,st,τ,d1,s1,R0,S0,e1,fun x m1 H1 b1 t1 R1 ix=>?_⟩
    refine tCs_end _ σ H1 _ ⟨?_,fun pp hp=>?_⟩
    · rw [List.length_map]
      exact Nat.le_of_lt (small1000 hlen)
    · have sm:=same_new (o:=.tup (ts.map fun t=>V.ty t.name)) hp
      exact ⟨m1,s1,d1,nm,x,pp,rfl,upd_same,R1.same sm,isD_mono (Sub.refl _) (Tr.of_same sm) _ _ ix,e2,post _ m1 _ b1 (t1.trans (Tr.of_same sm)) (R1.same sm) (mkBl _)⟩
  | @append _ a e x xp pe apos cpos ha he hl =>
    refine (pe_bm PySem.F.plainAttrs_list PySem.F.slot_list_append PySem.F.type_list_append mt_appendD (A.e c X G a _ ha) (args_ok A G (.cons he .nil)) rfl (by rw [he.star]; rfl) hl (he.star _ _) rfl).imp fun σ H Q h=>?_
    obtain ⟨m,st,τ,d,st',R0,S0,e0,post⟩:=h
    obtain ⟨d1,s1,e1,e0⟩:=bindD e0
    split at e0
    · rename_i hm
      obtain ⟨q,e2,e0⟩:=bindO e0
      refine ⟨m,st,τ,d1,s1,R0,S0,e1,fun v m1 H1 b1 t1 R1 i1=>⟨?_,m1,s1,τ,q.1,q.2,R1,S0.mono b1 t1,e2,fun xs m2 H2 b2 t2 R2 i2=>⟨m2,q.2,d1,q.1,d,st',R2,isD_mono b2 t2 _ _ i1,i2,e0,post.mono (b1.trans b2) (t1.trans t2)⟩⟩⟩
      cases d1 with
      | loc l =>
        have hm : (true && (M.seqAt s1 (.loc l)).isSome) = true:=hm
        rw [Bool.true_and] at hm
        obtain ⟨ds,hds⟩:=Option.isSome_iff_exists.mp hm
        obtain ⟨a',xs,_,rfl,hq,_⟩:=R1.seq hds i1
        exact .inl ⟨rfl,xs,hq⟩
      | lst l =>
        have hm : (true && (M.seqAt s1 (.lst l)).isSome) = true:=hm
        rw [Bool.true_and] at hm
        obtain ⟨ds,hds⟩:=Option.isSome_iff_exists.mp hm
        obtain ⟨a',xs,_,rfl,hq,_⟩:=R1.seq hds i1
        exact .inl ⟨rfl,xs,hq⟩
      | _=>cases hm
    · cases e0
  | @join _ a e pa pe apos cpos ha he hb hl =>
    refine (pe_bm PySem.F.plainAttrs_str PySem.F.slot_str_join PySem.F.type_str_join mt_joinD (A.e c X G a _ ha) (args_ok A G (.cons he .nil)) (hb X.env) (by rw [he.star]; rfl) hl (he.star _ _) rfl).imp fun σ H Q h=>?_
    obtain ⟨m,st,τ,d,st',R0,S0,e0,post⟩:=h
    obtain ⟨d1,s1,e1,e0⟩:=bindD e0
    split at e0
    · rename_i hm
      obtain ⟨q,e2,e0⟩:=bindO e0
      refine ⟨m,st,τ,d1,s1,R0,S0,e1,fun v m1 H1 b1 t1 R1 i1=>⟨?_,m1,s1,τ,q.1,q.2,R1,S0.mono b1 t1,e2,fun xs m2 H2 b2 t2 R2 i2=>⟨m2,q.2,d1,q.1,d,st',R2,isD_mono b2 t2 _ _ i1,i2,e0,post.mono (b1.trans b2) (t1.trans t2)⟩⟩⟩
      cases d1 with
      | str z=>rw [i1.str]; exact rfl
      | _=>cases hm
    · cases e0
  | @split _ a e pa pe apos cpos ha he hb hl =>
    refine (pe_bm PySem.F.plainAttrs_str PySem.F.slot_str_split PySem.F.type_str_split mt_splitD (A.e c X G a _ ha) (args_ok A G (.cons he .nil)) (hb X.env) (by rw [he.star]; rfl) hl (he.star _ _) rfl).imp fun σ H Q h=>?_
    obtain ⟨m,st,τ,d,st',R0,S0,e0,post⟩:=h
    obtain ⟨d1,s1,e1,e0⟩:=bindD e0
    split at e0
    · rename_i hm
      obtain ⟨q,e2,e0⟩:=bindO e0
      refine ⟨m,st,τ,d1,s1,R0,S0,e1,fun v m1 H1 b1 t1 R1 i1=>⟨?_,m1,s1,τ,q.1,q.2,R1,S0.mono b1 t1,e2,fun xs m2 H2 b2 t2 R2 i2=>⟨m2,q.2,d1,q.1,d,st',R2,isD_mono b2 t2 _ _ i1,i2,e0,post.mono (b1.trans b2) (t1.trans t2)⟩⟩⟩
      cases d1 with
      | str z=>rw [i1.str]; exact rfl
      | _=>cases hm
    · cases e0
  | @gc _ a p hp hg ha=>exact (pe_gc (A.e c X G a _ ha)).imp fun _ _ _ h=>h
  | @fmt _ a pa pos ha =>
    refine (pe_fmt (A.e c X G a pa ha)).imp fun σ H Q h=>?_
    obtain ⟨m,st,τ,d,st',R0,S0,e,post⟩:=h
    obtain ⟨d1,s1,e1,e⟩:=bindD e
    obtain ⟨w,e2,e3⟩:=mapD e
    cases e3
    refine ⟨m,st,τ,d1,s1,R0,S0,e1,fun x m1 H1 b1 t1 R1 i1=>?_⟩
    have l2:=lim_eq
    cases d1 with
    | int i =>
      have e2 : (if i.natAbs.log2 < 1920 then some (D.str (Str.ofString (toString i))) else none) = some d:=e2
      split at e2
      · rename_i hi
        cases e2
        exact .inl ⟨i,i1.int,hi,post _ m1 H1 b1 t1 R1 (mkStr _)⟩
      · cases e2
    | str z =>
      have e2 : (if z.length ≤ M.lim then some (D.str z) else none) = some d:=e2
      split at e2
      · rename_i hz
        cases e2
        exact .inr ⟨z,i1.str,by omega,post _ m1 H1 b1 t1 R1 (mkStr _)⟩
      · cases e2
    | _=>cases e2
  | @fstr _ es p1 p2 ps pos hs hev =>
    have pes : ∀ {es : List E} {ps : List Expr},CkEs c es ps→PEs X ps (es.map fun e=>tD X.K fun τ st=>(M.rn fns dl n).ev τ st e):=by
      intro es ps h
      induction es generalizing ps with
      | nil=>cases h; exact .nil
      | cons e es ih =>
        cases h with
        | cons h1 h2=>exact .cons (A.e c X G _ _ h1) (ih h2)
    refine (pe_fstr (pes hs) (hev X.env)).imp fun σ H Q h=>?_
    obtain ⟨m,st,τ,d,st',R0,S0,e,post⟩:=h
    have e : ((M.evs ((M.rn fns dl n).ev τ) es st).bind fun p=>(M.catD p.1 Str.empty).map fun z=>(D.str z,p.2)) = some (d,st'):=e
    obtain ⟨p,e1,e⟩:=bindO e
    obtain ⟨z,e2,e3⟩:=mapD e
    cases e3
    exact joins_run R0 S0 e1 e2 (Nat.zero_le _) post
  | @dic _ es k v ks vs pos hP h15 =>
    obtain ⟨h1,h2,h3⟩:=pairs_pps A G (pos:=pos) hP
    refine (pe_disp h1 h2 h3 (by simp) h15).imp fun σ H Q h=>?_
    obtain ⟨m,st,τ,d,st',R0,S0,e,post⟩:=h
    have e : ((M.evs ((M.rn fns dl n).ev τ) es (st++[.dic []])).bind fun p=>match M.dicAt p.2 st.length with
      | some []=>(M.pairUp p.1).bind fun kvs=>if kvs.length ≤ 15 then some (D.loc st.length,p.2.set st.length (.dic (M.dall kvs))) else none
      | _=>none) = some (d,st'):=e
    obtain ⟨p,e1,e⟩:=bindO e
    split at e
    · rename_i hdic
      obtain ⟨kvs,e2,e⟩:=bindO e
      split at e
      · rename_i hl
        cases e
        intro pp hp
        have sm:=same_new (o:=.dK []) hp
        refine pairs_run hP (R0.newD (kvs:=[]) (xs:=[]) hp rfl) (S0.mono (Sub.app _ _) (Tr.of_same sm)) e1 fun xs m1 H1 b1 t1 R1 ix=>?_
        obtain ⟨ys,hkv,htw⟩:=pairs_kv ix e2
        have hloc : MS.IsD X.K m1 H1 (.loc st.length) (.ref pp):=isD_mono b1 (Tr.refl H1) _ _ (R0.newLoc (p:=pp))
        obtain ⟨a',xs',ha',ea,hH,hkv0,hst⟩:=R1.dict hdic hloc
        cases ea
        have hx0 : xs' = []:=hkv0
        subst hx0
        have l1:=hkv.length
        refine ⟨hH,ys,htw,by omega,?_⟩
        exact post _ m1 _ ((Sub.app _ _).trans b1) ((Tr.of_same sm).trans (t1.trans (Tr.putD hH))) (R1.putD hst ha' hH (hkv.merge (show IsKV X.K m1 H1 [] [] from rfl))) (isD_mono (Sub.refl _) (Tr.putD hH) _ _ hloc)
      · cases e
    · cases e
  | @dgt _ a b pa pb apos cpos ha hb hbs hl htr =>
    exact pe_dgtD (by omega) (A.e c X G a pa ha) (A.e c X G b pb hb) ⟨hbs X.env,by rw [htr]; rfl,hl,htr X.env⟩
  | @gidx _ x ks ds b pb p0 pos hg hm hd hb hs =>
    obtain ⟨ad,h1,h2⟩:=G.mo.gds x ks ds hm
    exact pe_gidxD (G.gl hg) h1 h2 hd (A.e c X G b pb hb) hs
  | @gnin _ x ks ds b pb p0 pos hg hm hd hb =>
    obtain ⟨ad,h1,h2⟩:=G.mo.gds x ks ds hm
    exact pe_cmp (pc_ginD true (G.gl hg) h1 h2 hd (A.e c X G b pb hb)) rfl
  | @sli _ a lo hi pa pl ph p2 pos ha hl hh =>
    refine (pe_slice sl_D (A.e c X G a pa ha) (po_ok A G hl) (po_ok A G hh)).imp fun σ H Q h=>?_
    obtain ⟨m,st,τ,d,st',R0,S0,e,post⟩:=h
    have e : (((M.rn fns dl n).ev τ st a).bind fun p=>(M.part (M.rn fns dl n) τ p.2 lo).bind fun l=>(M.part (M.rn fns dl n) τ l.2 hi).bind fun h=>M.sliD h.2 p.1 l.1 h.1) = some (d,st'):=e
    obtain ⟨d1,s1,e1,e⟩:=bindD e
    obtain ⟨l,e2,e⟩:=bindO e
    obtain ⟨u,e3,e⟩:=bindO e
    exact ⟨m,st,τ,d1,s1,R0,S0,e1,fun x m1 H1 b1 t1 R1 i1=>⟨m1,s1,τ,l.1,l.2,R1,S0.mono b1 t1,e2,fun m2 H2 b2 t2 R2=>⟨m2,l.2,τ,u.1,u.2,R2,S0.mono (b1.trans b2) (t1.trans t2),e3,fun m3 H3 b3 t3 R3 =>
      ⟨m3,u.2,d1,d,st',R3,isD_mono (b2.trans b3) (t2.trans t3) _ _ i1,e,post.mono (b1.trans (b2.trans b3)) (t1.trans (t2.trans t3))⟩⟩⟩⟩
  | @comp _ t it elt sr tg iter pelt scope pos N hk hcell hfree hloc hlen hsrc hnd hs hi ht htl he =>
    have S:=comp_scope G hk hcell hfree hloc hlen hsrc
    exact (pe_comp (tt:=fun _ H Q=>Q true H) G.calm S (iter_ok A G hi) (fun C fp s H=>target_ok (G.inner hk hnd) ht fun i hi' x hx=>.inr (tlOk_of htl i hi' x hx)) (fun C fp s H=>test_nil) (fun C fp s H=>A.e _ _ (G.inner hk hnd) elt pelt he) (hs X.env)).imp fun σ H Q h =>
      tD_comp (fun _ _ _ q=>q) h
  | @compIf _ t it q elt sr tg iter pq pelt scope pos N hk hcell hfree hloc hlen hsrc hnd hs hi ht htl hq he =>
    have S:=comp_scope G hk hcell hfree hloc hlen hsrc
    exact (pe_comp G.calm S (iter_ok A G hi) (fun C fp s H=>target_ok (G.inner hk hnd) ht fun i hi' x hx=>.inr (tlOk_of htl i hi' x hx)) (fun C fp s H=>test_one (A.t _ _ (G.inner hk hnd) q pq hq)) (fun C fp s H=>A.e _ _ (G.inner hk hnd) elt pelt he) (hs X.env)).imp fun σ H Q h =>
      tD_comp (fun _ _ _ q=>q) h
end
end MS
end
section
set_option linter.all false
set_option Elab.async false
set_option maxRecDepth 100000
set_option maxHeartbeats 4000000
namespace MS
open PySem PySem.Spec PyProof.Rows L2
open M (D Cell Store Sl E S T Src Fn Out R)
section
variable {fns : List Fn} {dl n : Nat} {c : Ctx} {X : Cx}
theorem tt_val {K : PySem.W.Frag} {r : R} {e : E} {σ : L2.St} {H : Hp} {Q : Bool→Hp→Prop} (hr : ∀ τ st,M.stepTst r τ st e = (r.ev τ st e).bind fun p=>(M.truth p.2 p.1).map fun k=>(k,p.2))
    (h : tTs K (fun τ st=>M.stepTst r τ st e) σ H Q) : (tD K fun τ st=>r.ev τ st e) σ H fun x H'=>∃ k,TruV K x H' k∧Q k H':=by
  obtain ⟨m,st,τ,d,st',R0,S0,e0,q⟩:=h
  have e0:=(hr τ st).symm.trans e0
  obtain ⟨d1,s1,e1,e0⟩:=bindD e0
  obtain ⟨k,e2,e3⟩:=mapD e0
  cases e3
  exact ⟨m,st,τ,d1,s1,R0,S0,e1,fun x m1 H1 b1 t1 R1 i1=>⟨_,truV_of R1 i1 e2,q m1 H1 b1 t1 R1⟩⟩
theorem tt_bl {K : PySem.W.Frag} {r : R} {e : E} {f : Sl→Store→Option (D × Store)} {σ : L2.St} {H : Hp} {Q : Bool→Hp→Prop} (hr : ∀ τ st,M.stepTst r τ st e = (f τ st).bind fun p=>(M.truth p.2 p.1).map fun k=>(k,p.2)) (hf : ∀ τ st d st',f τ st = some (d,st')→∃ k,d = .bl k)
    (h : tTs K (fun τ st=>M.stepTst r τ st e) σ H Q) : tB (tD K f) σ H Q:=by
  obtain ⟨m,st,τ,d,st',R0,S0,e0,q⟩:=h
  have e0:=(hr τ st).symm.trans e0
  obtain ⟨d1,s1,e1,e0⟩:=bindD e0
  obtain ⟨k,rfl⟩:=hf _ _ _ _ e1
  cases e0
  exact ⟨m,st,τ,_,_,R0,S0,e1,fun x m1 H1 b1 t1 R1 i1=>⟨_,i1.bl,q m1 H1 b1 t1 R1⟩⟩
theorem gin_bl {r : R} {τ : Sl} {st st' : Store} {neg : Bool} {ks : List Str} {b : E} {d : D} (h : M.ginR r τ st neg ks b = some (d,st')) : ∃ k,d = .bl k:=by
  unfold M.ginR at h
  obtain ⟨d1,s1,e1,h⟩:=bindD h
  cases d1 with
  | str z=>cases h; exact ⟨_,rfl⟩
  | _=>cases h
theorem tt_and {K : PySem.W.Frag} {r : R} {a b : E} {σ : L2.St} {H : Hp} {Q : Bool→Hp→Prop} (h : tTs K (fun τ st=>M.stepTst r τ st (.and a b)) σ H Q) : tAnd (tTs K fun τ st=>r.tst τ st a) (tTs K fun τ st=>r.tst τ st b) σ H Q:=by
  obtain ⟨m,st,τ,d,st',R0,S0,e0,q⟩:=h
  have e0 : ((r.tst τ st a).bind fun p=>if p.1 then r.tst τ p.2 b else some (false,p.2)) = some (d,st'):=e0
  obtain ⟨p,e1,e0⟩:=bindO e0
  refine ⟨m,st,τ,p.1,p.2,R0,S0,e1,fun m1 H1 b1 t1 R1=>?_⟩
  cases hp : p.1 with
  | true =>
    rw [hp,if_pos rfl] at e0
    rw [if_pos rfl]
    exact ⟨m1,p.2,τ,d,st',R1,S0.mono b1 t1,e0,fun m2 H2 b2 t2 R2=>q m2 H2 (b1.trans b2) (t1.trans t2) R2⟩
  | false =>
    rw [hp,if_neg Bool.false_ne_true] at e0
    cases e0
    rw [if_neg Bool.false_ne_true]
    exact q m1 H1 b1 t1 R1
theorem tt_or {K : PySem.W.Frag} {r : R} {a b : E} {σ : L2.St} {H : Hp} {Q : Bool→Hp→Prop} (h : tTs K (fun τ st=>M.stepTst r τ st (.or a b)) σ H Q) : tOr (tTs K fun τ st=>r.tst τ st a) (tTs K fun τ st=>r.tst τ st b) σ H Q:=by
  obtain ⟨m,st,τ,d,st',R0,S0,e0,q⟩:=h
  have e0 : ((r.tst τ st a).bind fun p=>if p.1 then some (true,p.2) else r.tst τ p.2 b) = some (d,st'):=e0
  obtain ⟨p,e1,e0⟩:=bindO e0
  refine ⟨m,st,τ,p.1,p.2,R0,S0,e1,fun m1 H1 b1 t1 R1=>?_⟩
  cases hp : p.1 with
  | false =>
    rw [hp,if_neg Bool.false_ne_true] at e0
    rw [if_neg Bool.false_ne_true]
    exact ⟨m1,p.2,τ,d,st',R1,S0.mono b1 t1,e0,fun m2 H2 b2 t2 R2=>q m2 H2 (b1.trans b2) (t1.trans t2) R2⟩
  | true =>
    rw [hp,if_pos rfl] at e0
    cases e0
    rw [if_pos rfl]
    exact q m1 H1 b1 t1 R1
theorem slot_back {K : PySem.W.Frag} {m m1 : List Addr} {H H1 H2 : Hp} {τ : Sl} {σ σ' : L2.St} {i : Nat} {d0 d : D} (S0 : SlotOk K m H τ σ) (S1 : SlotOk K m1 H1 (τ.set i (some d0)) σ') (s : Sub m m1) (t : Tr H1 H2) (hd : ∀ v,MS.IsD K m1 H1 d0 v→MS.IsD K m H2 d v) : SlotOk K m H2 (τ.set i (some d)) σ':=by
  refine ⟨by have:=S1.len; rwa [List.length_set] at this ⊢,fun j e ej=>?_⟩
  by_cases hj : i = j
  · subst hj
    have hi : i < τ.length:=by
      have:=(List.getElem?_eq_some_iff.mp ej).1
      rwa [List.length_set] at this
    rw [List.getElem?_set_self hi] at ej
    cases ej
    obtain ⟨v,e1,q⟩:=S1.at_ i d0 (List.getElem?_set_self hi)
    exact ⟨v,e1,hd v q⟩
  · rw [List.getElem?_set_ne hj] at ej
    obtain ⟨v0,_,q0⟩:=S0.at_ j e ej
    obtain ⟨v,e1,q⟩:=S1.at_ j e (by rw [List.getElem?_set_ne hj]; exact ej)
    exact ⟨v,e1,isD_mono (Sub.refl m) t _ _ (isD_back s _ _ _ q0 q)⟩
theorem ps_setgc {p : Stmt} {f : Sl→Store→Option (D × Store)} {i : Nat} (h : PS X p (tS X.K fun τ st=>(f τ st).bind fun q=>(M.setT (.var i) q.1 τ).map fun τ'=>(Out.nx τ',q.2))) :
    PS X p (tS X.K fun τ st=>((f τ st).map fun q=>M.gcD st q).bind fun q=>(M.setT (.var i) q.1 τ).map fun τ'=>(Out.nx τ',q.2)):=by
  intro pins s σ H Dn I q
  obtain ⟨m,st,τ,o,st',R0,S0,e,post⟩:=q
  obtain ⟨d,s1,e1,e⟩:=bindD e
  obtain ⟨⟨d0,st0⟩,e2,e3⟩:=mapD e1
  obtain ⟨τ',e4,e5⟩:=mapD e
  cases e5
  have e4 : (if i < τ.length then some (τ.set i (some d)) else none) = some τ':=e4
  split at e4
  case isFalse=>cases e4
  case isTrue hi =>
    cases e4
    refine thn (h pins s σ H ⟨fun σ' H1=>∃ m1,Sub m m1∧Tr H H1∧Rel X.K m1 st0 H1∧SlotOk X.K m1 H1 (τ.set i (some d0)) σ',fun _ _=>False,fun _ _=>False,fun _ _=>False⟩ I ⟨m,st,τ,.nx (τ.set i (some d0)),st0,R0,S0,by show (f τ st).bind _ = _; rw [e2]; show Option.map _ (if i < τ.length then some (τ.set i (some d0)) else none) = _; rw [if_pos hi]; rfl,fun m1 H1 b t R σ' S1=>⟨m1,b,t,R,S1⟩⟩) fun fl s2 hf=>?_
    cases fl with
    | next =>
      obtain ⟨σ',H1,I1,m1,b1,t1,R1,S1⟩:=hf
      have plain : (d0,st0) = (d,s1)→SP X pins Dn .next s2:=fun z=>by
        cases z
        exact ⟨σ',H1,I1,post m1 H1 b1 t1 R1 σ' S1⟩
      unfold M.gcD at e3
      split at e3
      · rename_i hp
        split at e3
        · rename_i hn
          cases e3
          exact ⟨σ',H1,I1,post m H1 (Sub.refl m) t1 (R0.cutBack R1 b1 hp (Tr.refl H1) fun _ _ _ _ _ _=>rfl) σ' (slot_back S0 S1 b1 (Tr.refl H1) fun v q=>isD_nl _ _ hn q)⟩
        · split at e3
          · rename_i l hd
            simp only at hd
            split at e3
            · rename_i hl
              split at e3
              · rename_i ds hc
                split at e3
                · rename_i hn
                  cases e3
                  subst hd
                  obtain ⟨a,ha⟩:=R1.addr hc
                  obtain ⟨xs,hx,ix⟩:=R1.cell l _ a hc ha
                  obtain ⟨o,I2⟩:=inv_freeze I1 hx
                  have t2 : Tr H1 (upd H1 a (.frz o (.lst xs))):=⟨fun b zs e=>by rw [upd_ne (ne_of e hx (by intro z; cases z))]; exact e,fun b o u e=>by rw [upd_ne (ne_of e hx (by intro z; cases z))]; exact e⟩
                  refine ⟨σ',_,I2,post m _ (Sub.refl m) (t1.trans t2) (R0.cutBack R1 b1 hp t2 fun l' c a' e ea w=>?_) σ' (slot_back S0 S1 b1 t2 fun v q=>?_)⟩
                  · refine upd_ne fun z=>?_
                    subst z
                    have hlt:=(List.getElem?_eq_some_iff.mp e).1
                    have:=R1.nd l' l a' c _ (b1 l' a' ea) ha (pre_at hp e) hc w rfl
                    omega
                  · obtain ⟨a',ha',rfl⟩:=q.loc
                    rw [ha] at ha'
                    cases ha'
                    exact mkLst (.inl ⟨o,upd_same⟩) (isDs_nl _ _ hn (isDs_mono (Sub.refl m1) t2 _ _ ix))
                · exact plain e3
              · exact plain e3
            · exact plain e3
          · exact plain e3
      · exact plain e3
    | brk=>obtain ⟨_,_,_,z⟩:=hf; exact z.elim
    | cont=>obtain ⟨_,_,_,z⟩:=hf; exact z.elim
    | ret u=>obtain ⟨_,_,_,_,_,z⟩:=hf; exact z.elim
theorem w_ok (A : AllOk fns dl n) (G' : Good fns dl c X) {e : E} {op : BoolOp} {ps : List Expr} {pos : Pos} (h : CkE c e (.BoolOp op ps pos)) : PW X (.BoolOp op ps pos) (tTs X.K fun τ st=>M.stepTst (M.rn fns dl n) τ st e):=by
  have G:=G'
  cases h with
  | @and2 _ a b pa pb pos ha hb=>exact (pw_and (A.t c X G a pa ha) (pw_and1 (A.t c X G b pb hb))).imp fun σ H Q h=>tt_and h
  | @andN _ a b pa pb pd r pos ha hb=>exact (pw_and (A.t c X G a pa ha) (A.w c X G b _ _ _ hb)).imp fun σ H Q h=>tt_and h
  | @or2 _ a b pa pb pos ha hb=>exact (pw_or (A.t c X G a pa ha) (pw_or1 (A.t c X G b pb hb))).imp fun σ H Q h=>tt_or h
  | gc hp hg ha=>cases hp
theorem t_ok (A : AllOk fns dl n) (G' : Good fns dl c X) {e : E} {p : Expr} (h : CkE c e p) : PT X p (tTs X.K fun τ st=>M.stepTst (M.rn fns dl n) τ st e):=by
  have G:=G'
  have hu : X.A.units + 64 < cLine:=G'.room.units
  have hA:=A.e c X G e p h
  cases h with
  | @not _ a pa pos ha =>
    refine (pt_not (A.t c X G a pa ha)).imp fun σ H Q h=>?_
    obtain ⟨m,st,τ,d,st',R0,S0,e0,q⟩:=h
    obtain ⟨p,e1,e2⟩:=mapD e0
    cases e2
    exact ⟨m,st,τ,p.1,p.2,R0,S0,e1,fun m1 H1 b1 t1 R1=>q m1 H1 b1 t1 R1⟩
  | and2 ha hb=>exact (w_ok A G' (.and2 ha hb)).pt
  | andN ha hb=>exact (w_ok A G' (.andN ha hb)).pt
  | or2 ha hb=>exact (w_ok A G' (.or2 ha hb)).pt
  | @cmp _ op a b pa pb pos ha hb hm =>
    refine (pt_cmpR (op_cmpD hu op) (A.e c X G a pa ha) (A.e c X G b pb hb) hm).imp fun σ H Q h=>?_
    obtain ⟨m,st,τ,d,st',R0,S0,e0,q⟩:=h
    obtain ⟨d1,s1,e1,e0⟩:=bindD e0
    obtain ⟨d2,s2,e2,e0⟩:=bindD e0
    obtain ⟨k,e3,e4⟩:=mapD e0
    cases e4
    exact ⟨m,st,τ,d1,s1,R0,S0,e1,fun x m1 H1 b1 t1 R1 i1=>⟨m1,s1,τ,d2,s2,R1,S0.mono b1 t1,e2,fun y m2 H2 b2 t2 R2 i2 =>
      ⟨m2,s2,d1,d2,.bl d,s2,R2,isD_mono b2 t2 _ _ i1,i2,by show Option.map _ (M.cmpD s2 op d1 d2) = _; rw [show M.cmpD s2 op d1 d2 = some d from e3]; rfl,fun z m3 H3 b3 t3 R3 i3=>⟨d,i3.bl,q m3 H3 (b1.trans (b2.trans b3)) (t1.trans (t2.trans t3)) R3⟩⟩⟩⟩
  | ite hq ha hb=>exact fun pins s σ H Q I q=>by obtain ⟨m,st,τ,d,st',_,_,z,_⟩:=q; cases z
  | @gnin _ x ks ds b pb p0 pos hg hm hd hb =>
    obtain ⟨ad,h1,h2⟩:=G.mo.gds x ks ds hm
    exact (pt_cmp (pc_ginD true (G.gl hg) h1 h2 hd (A.e c X G b pb hb)) rfl).imp fun σ H Q h=>tt_bl (fun _ _=>rfl) (fun _ _ _ _ z=>gin_bl z) h
  | gc hp hg ha =>
    cases p with
    | Call=>exact (pt_truth hA fun _=>rfl).imp fun σ H Q h=>tt_val (fun _ _=>rfl) h
    | ListComp=>exact (pt_truth hA fun _=>rfl).imp fun σ H Q h=>tt_val (fun _ _=>rfl) h
    | List=>exact (pt_truth hA fun _=>rfl).imp fun σ H Q h=>tt_val (fun _ _=>rfl) h
    | BinOp=>exact (pt_truth hA fun _=>rfl).imp fun σ H Q h=>tt_val (fun _ _=>rfl) h
    | Subscript=>exact (pt_truth hA fun _=>rfl).imp fun σ H Q h=>tt_val (fun _ _=>rfl) h
    | _=>cases hp
  | _=>exact (pt_truth hA fun _=>rfl).imp fun σ H Q h=>tt_val (fun _ _=>rfl) h
theorem S_nx {K : PySem.W.Frag} {m : List Addr} {H : Hp} {τ : Sl} {st' : Store} {Dn : Ends} {σ : L2.St} (p : PostO K m H (.nx τ) st' Dn) {m' : List Addr} {H' : Hp} (b : Sub m m') (t : Tr H H') (R0 : Rel K m' st' H') (S0 : SlotOk K m' H' τ σ) : Dn.nx σ H':=p m' H' b t R0 σ S0
theorem set_ok {K : PySem.W.Frag} {r : R} {i : Nat} {e : E} {te : TE} {Dn : Ends} {σ : L2.St} {H : Hp} (hte : ∀ Q,(tD K fun τ st=>r.ev τ st e) σ H Q→te σ H Q) (h : tS K (fun τ st=>M.stepEx r τ st (.set (.var i) e)) Dn σ H) : tAsg te (gName i) Dn σ H:=by
  obtain ⟨m,st,τ,o,st',R0,S0,e0,q⟩:=h
  obtain ⟨d1,s1,e1,e0⟩:=bindD e0
  obtain ⟨τ',e2,e3⟩:=mapD e0
  cases e3
  have e2 : (if i < τ.length then some (τ.set i (some d1)) else none) = some τ':=e2
  split at e2
  · cases e2
    exact hte _ ⟨m,st,τ,d1,s1,R0,S0,e1,fun x m1 H1 b1 t1 R1 i1=>S_nx q b1 t1 R1 ((S0.mono b1 t1).put i1)⟩
  · cases e2
theorem setC_ok (IH : ∀ j,j ≤ n→AllOk fns dl j) (G : Good fns dl c X) (hf : ∀ x,X.fn x = true) {i : Nat} {e : E} {x : Str} {p : Expr} {pos pos' : Pos} (hi : c.N[i]? = some x) (hl : c.sc.names.lookup x = some .local∨c.sc.names.lookup x = some .cell) (he : CkE c e p) (hg : ∀ a,e ≠ .gc a) (hc : ∃ elt gs sc q,p = .ListComp elt gs sc q) (hs : ∀ env : Env,env.scope = c.sc→(swapsWith p (some (.Name x pos')) pos.line env = pure false∨swapsWith p (some (.Name x pos')) pos.line env = pure true)) :
    PS X (.Assign [.Name x pos'] p pos) (tS X.K fun τ st=>M.stepEx (M.rn fns dl n) τ st (.set (.var i) e)):=by
  have A:=IH n (Nat.le_refl n)
  have hN : X.N.Nodup:=by rw [G.N]; exact G.nd
  have loc : ∀ {x : Str},(c.sc.names.lookup x = some .local∨c.sc.names.lookup x = some .cell)→Loc X.env.scope x:=fun {x} h=>by show X.env.scope.names.lookup x = _∨_ = _; rw [G.sc]; exact h
  rcases hs X.env G.sc with z | z
  · exact (ps_set hN (var_of G hi) (loc hl) (A.e c X G e p he) z (.inl (hf x))).imp fun D σ H h=>set_ok (fun _ q=>q) h
  · cases n with
    | zero=>exact fun pins s σ H Dn I q=>by obtain ⟨m,st,τ,d,st',_,_,w,_⟩:=q; cases w
    | succ n =>
      have A1:=IH n (Nat.le_succ n)
      have G1:=G
      obtain ⟨elt,gs,sc,q,rfl⟩:=hc
      cases he with
      | @comp _ t it elt' sr tg iter pelt scope cpos N hk hcell hfree hloc hlen hsrc hnd hfs hit ht htl he =>
        have SC:=comp_scope G1 hk hcell hfree hloc hlen hsrc
        exact (ps_setComp (tt:=fun _ H Q=>Q true H) G1.calm SC (iter_ok A1 G1 hit) (fun C fp s H=>target_ok (G1.inner hk hnd) ht fun i hi' x hx=>.inr (tlOk_of htl i hi' x hx)) (fun C fp s H=>test_nil) (fun C fp s H=>A1.e _ _ (G1.inner hk hnd) elt' _ he) (hfs X.env) hN (var_of G hi) (loc hl) (.inl (hf x)) z).imp fun D σ H h =>
          set_ok (fun Q q=>tD_comp (fun _ _ _ q=>q) q) h
      | @compIf _ t it cq elt' sr tg iter pq pelt scope cpos N hk hcell hfree hloc hlen hsrc hnd hfs hit ht htl hq he =>
        have SC:=comp_scope G1 hk hcell hfree hloc hlen hsrc
        exact (ps_setComp G1.calm SC (iter_ok A1 G1 hit) (fun C fp s H=>target_ok (G1.inner hk hnd) ht fun i hi' x hx=>.inr (tlOk_of htl i hi' x hx)) (fun C fp s H=>test_one (A1.t _ _ (G1.inner hk hnd) cq pq hq)) (fun C fp s H=>A1.e _ _ (G1.inner hk hnd) elt' _ he) (hfs X.env) hN (var_of G hi) (loc hl) (.inl (hf x)) z).imp fun D σ H h =>
          set_ok (fun Q q=>tD_comp (fun _ _ _ q=>q) q) h
      | gc hp hg' ha=>exact (hg _ rfl).elim
theorem s1_ok (IH : ∀ j,j ≤ n→AllOk fns dl j) (G : Good fns dl c X) (hf : ∀ x,X.fn x = true) {s : S} {p : Stmt} (h : CkS c s p) : PS X p (tS X.K fun τ st=>M.stepEx (M.rn fns dl n) τ st s):=by
  have A:=IH n (Nat.le_refl n)
  have hN : X.N.Nodup:=by rw [G.N]; exact G.nd
  have loc : ∀ {x : Str},(c.sc.names.lookup x = some .local∨c.sc.names.lookup x = some .cell)→Loc X.env.scope x:=fun {x} h=>by show X.env.scope.names.lookup x = _∨_ = _; rw [G.sc]; exact h
  cases h with
  | @set i e x p pos pos' hi hl he hs=>exact (ps_set hN (var_of G hi) (loc hl) (A.e c X G e p he) (hs X.env) (.inl (hf x))).imp fun D σ H h=>set_ok (fun _ q=>q) h
  | @setC i e x p pos pos' hi hl he hc hs =>
    by_cases hgc : ∃ a,e = .gc a
    · obtain ⟨a,rfl⟩:=hgc
      cases he with
      | gc hp hg ha =>
        cases n with
        | zero=>exact fun pins s σ H Dn I q=>by obtain ⟨m,st,τ,d,st',_,_,w,_⟩:=q; cases w
        | succ n=>exact (ps_setgc (setC_ok (fun j hj=>IH j (Nat.le_succ_of_le hj)) G hf hi hl ha hg hc hs)).imp fun _ _ _ q=>q
    · exact setC_ok IH G hf hi hl he (fun a z=>hgc ⟨a,z⟩) hc hs
  | rais=>exact fun pins s σ H Dn I q=>by obtain ⟨m,st,τ,d,st',_,_,z,_⟩:=q; cases z
  | @dset a i e pa pi pe tpos pos ha hi he hs =>
    refine (ps_dput (by have:=G.room.units; omega) (A.e c X G a pa ha) (A.e c X G i pi hi) (A.e c X G e pe he) (hs X.env)).imp fun Dn σ H h=>?_
    obtain ⟨m,st,τ,o,st',R0,S0,e0,q⟩:=h
    obtain ⟨d1,s1,e1,e0⟩:=bindD e0
    obtain ⟨d2,s2,e2,e0⟩:=bindD e0
    obtain ⟨d3,s3,e3,e0⟩:=bindD e0
    cases d2 with
    | loc l =>
      have e0 : ((M.dicAt s3 l).bind fun kvs=>if M.isKey d3 && decide (kvs.length < M.lim) then some (Out.nx τ,s3.set l (.dic (M.dput kvs d3 d1))) else none) = some (o,st'):=e0
      obtain ⟨kvs,e4,e0⟩:=bindO e0
      split at e0
      · rename_i hk
        cases e0
        rw [Bool.and_eq_true,decide_eq_true_eq] at hk
        obtain ⟨k,hk1⟩:=key_of hk.1
        refine ⟨m,st,τ,d1,s1,R0,S0,e1,fun x m1 H1 b1 t1 R1 i1=>⟨m1,s1,τ,.loc l,s2,R1,S0.mono b1 t1,e2,fun y m2 H2 b2 t2 R2 i2=>⟨m2,s2,τ,d3,s3,R2,S0.mono (b1.trans b2) (t1.trans t2),e3,fun z m3 H3 b3 t3 R3 i3=>?_⟩⟩⟩
        obtain ⟨a',xs,ha',rfl,hH,hkv,hst⟩:=R3.dict e4 (isD_mono b3 t3 _ _ i2)
        have hz:=key_V hk1 i3
        subst hz
        have l1:=hkv.length
        have l2:=lim_eq
        refine ⟨a',_,rfl,DPut.k hH (by omega),?_⟩
        have iv:=isD_mono (b2.trans b3) (t2.trans t3) _ _ i1
        exact S_nx q (b1.trans (b2.trans b3)) (t1.trans (t2.trans (t3.trans (Tr.putD hH)))) (R3.putD hst ha' hH (hkv.put hk1 iv)) (S0.mono (b1.trans (b2.trans b3)) (t1.trans (t2.trans (t3.trans (Tr.putD hH)))))
      · cases e0
    | _=>cases e0
  | @expr e p pos he hs =>
    refine (ps_expr (A.e c X G e p he) (hs X.env)).imp fun Dn σ H h=>?_
    obtain ⟨m,st,τ,o,st',R0,S0,e0,q⟩:=h
    obtain ⟨p,e1,e2⟩:=mapD e0
    cases e2
    exact ⟨m,st,τ,p.1,p.2,R0,S0,e1,fun x m1 H1 b1 t1 R1 i1=>S_nx q b1 t1 R1 (S0.mono b1 t1)⟩
  | @ret e p pos he =>
    refine (ps_ret (A.e c X G e p he)).imp fun Dn σ H h=>?_
    obtain ⟨m,st,τ,o,st',R0,S0,e0,q⟩:=h
    obtain ⟨p,e1,e2⟩:=mapD e0
    cases e2
    exact ⟨m,st,τ,p.1,p.2,R0,S0,e1,fun x m1 H1 b1 t1 R1 i1=>q m1 H1 b1 t1 R1 x i1⟩
  | @ite q a b pq pa pb pos hq ha hb =>
    refine (ps_if (A.t c X G q pq hq) (A.s c X G hf a pa ha) (A.s c X G hf b pb hb)).imp fun Dn σ H h=>?_
    obtain ⟨m,st,τ,o,st',R0,S0,e0,post⟩:=h
    obtain ⟨p,e1,e0⟩:=bindO e0
    refine ⟨m,st,τ,p.1,p.2,R0,S0,e1,fun m1 H1 b1 t1 R1=>?_⟩
    cases hp : p.1 with
    | true =>
      rw [hp,if_pos rfl] at e0
      rw [if_pos rfl]
      exact ⟨m1,p.2,τ,o,st',R1,S0.mono b1 t1,e0,post.mono b1 t1⟩
    | false =>
      rw [hp,if_neg Bool.false_ne_true] at e0
      rw [if_neg Bool.false_ne_true]
      exact ⟨m1,p.2,τ,o,st',R1,S0.mono b1 t1,e0,post.mono b1 t1⟩
  | @forr t it body tg iter pb pos ht hi hs hb =>
      refine (ps_for (by rw [G.xe]; exact PassesOwn.never) G.calm (iter_ok A G hi) (target_ok G ht fun i _ x _=>.inl (hf x)) (A.s c X G hf body pb hb) (hs X.env)).imp fun Dn σ H h=>?_
      obtain ⟨m,st,τ,o,st',R0,S0,e0,post⟩:=h
      obtain ⟨p,e1,e0⟩:=bindO e0
      refine ⟨m,st,τ,p.1,p.2,R0,S0,e1,fun m1 H1 J b1 t1 R1 hJ=>?_⟩
      refine ⟨fun j k σ' H'=>∃ m2 st2 τ2,Sub m1 m2∧Tr H1 H'∧Rel X.K m2 st2 H'∧SlotOk X.K m2 H' τ2 σ'∧M.loop p.1 (fun τ st d=>(M.setT t d τ).bind fun τ'=>(M.rn fns dl n).ex τ' st body) k j τ2 st2 = some (o,st'),
        ⟨_,m1,p.2,τ,Sub.refl _,Tr.refl _,R1,S0.mono b1 t1,e0⟩,?_⟩
      rintro j k σ' H' ⟨m2,st2,τ2,b2,t2,R2,S2,e4⟩
      cases k with
      | zero=>cases e4
      | succ k =>
        have e4 : (p.1.at st2 j).bind (fun o=>match o with
          | none=>some (Out.nx τ2,st2)
          | some d=>((M.setT t d τ2).bind fun τ'=>(M.rn fns dl n).ex τ' st2 body).bind fun z=>match z.1 with
            | .nx τ'=>M.loop p.1 (fun τ st d=>(M.setT t d τ).bind fun τ'=>(M.rn fns dl n).ex τ' st body) k (j + 1) τ' z.2
            | .ct τ'=>M.loop p.1 (fun τ st d=>(M.setT t d τ).bind fun τ'=>(M.rn fns dl n).ex τ' st body) k (j + 1) τ' z.2
            | .bk τ'=>some (.nx τ',z.2)
            | .rt v=>some (.rt v,z.2)) = some (o,st'):=e4
        obtain ⟨oo,e5,e4⟩:=bindO e4
        cases oo with
        | none =>
          cases e4
          exact .inl ⟨(hJ.mono b2 t2).done R2 e5,S_nx post (b1.trans b2) (t1.trans t2) R2 S2⟩
        | some d =>
          obtain ⟨hgo,hy⟩:=(hJ.mono b2 t2).next R2 e5
          dsimp only at e4
          obtain ⟨z,e6,e4⟩:=bindO e4
          obtain ⟨τ3,e7,e6⟩:=bindO e6
          refine .inr ⟨hgo,fun σ3 H3=>∃ m3 st3 τ3,Sub m1 m3∧Tr H1 H3∧Rel X.K m3 st3 H3∧SlotOk X.K m3 H3 τ3 σ3∧M.loop p.1 (fun τ st d=>(M.setT t d τ).bind fun τ'=>(M.rn fns dl n).ex τ' st body) k (j + 1) τ3 st3 = some (o,st'),fun σ3 H3 w3=>⟨k,Nat.lt_succ_self k,w3⟩,fun x H2 hyl=>?_⟩
          obtain ⟨sm,ix⟩:=hy x H2 hyl
          have t2:=t2.trans (Tr.of_same sm)
          have R2:=R2.same sm
          have S2:=S2.mono (Sub.refl _) (Tr.of_same sm)
          refine gT_of ix S2 e7 fun σ3 S3=>?_
          refine ⟨m2,st2,_,z.1,z.2,R2,S3,e6,fun m3 H3 b3 t3 R3=>?_⟩
          cases hz : z.1 with
          | nx τ4 =>
            rw [hz] at e4
            exact fun σ4 S4=>⟨m3,z.2,τ4,b2.trans b3,t2.trans t3,R3,S4,e4⟩
          | ct τ4 =>
            rw [hz] at e4
            exact fun σ4 S4=>⟨m3,z.2,τ4,b2.trans b3,t2.trans t3,R3,S4,e4⟩
          | bk τ4 =>
            rw [hz] at e4
            cases e4
            exact fun σ4 S4=>S_nx post (b1.trans (b2.trans b3)) (t1.trans (t2.trans t3)) R3 S4
          | rt v =>
            rw [hz] at e4
            cases e4
            exact fun w iw=>post m3 H3 (b1.trans (b2.trans b3)) (t1.trans (t2.trans t3)) R3 w iw
theorem ss_ok (IH : ∀ j,j ≤ n→AllOk fns dl j) (G : Good fns dl c X) (hf : ∀ x,X.fn x = true) : ∀ {ss : List S} {ps : List Stmt},CkSs c ss ps→PSs X ps (tS X.K fun τ st=>M.exs (M.stepEx (M.rn fns dl n)) ss τ st)
  | _,_,.nil=>pss_nil.imp fun Dn σ H h=>by
    obtain ⟨m,st,τ,o,st',R0,S0,e0,q⟩:=h
    cases e0
    exact q m H (Sub.refl m) (Tr.refl H) R0 _ S0
  | _,_,.doc t=>(pss_cons ps_doc (ss_ok IH G hf t)).imp fun Dn σ H h=>h
  | _,_,.cons (s:=s) (ss:=ss) h t=>(pss_cons (s1_ok IH G hf h) (ss_ok IH G hf t)).imp fun Dn σ H hq=>by
    obtain ⟨m,st,τ,o,st',R0,S0,e0,q⟩:=hq
    obtain ⟨p,e1,e0⟩:=bindO e0
    refine ⟨m,st,τ,p.1,p.2,R0,S0,e1,fun m1 H1 b1 t1 R1=>?_⟩
    cases hp : p.1 with
    | nx τ1 =>
      rw [hp] at e0
      exact fun σ1 S1=>⟨m1,p.2,τ1,o,st',R1,S1,e0,q.mono b1 t1⟩
    | rt d =>
      rw [hp] at e0
      cases e0
      exact q m1 H1 b1 t1 R1
    | bk d =>
      rw [hp] at e0
      cases e0
      exact q m1 H1 b1 t1 R1
    | ct d =>
      rw [hp] at e0
      cases e0
      exact q m1 H1 b1 t1 R1
end
theorem allOk (fns : List Fn) (dl : Nat) : ∀ n j,j ≤ n→AllOk fns dl j:=by
  intro n
  induction n with
  | zero=>intro j h; rw [Nat.le_zero.mp h]; exact allOk_zero fns dl
  | succ n ih =>
    intro j h
    rcases Nat.lt_or_ge j (n + 1) with z | z
    · exact ih j (by omega)
    · have e : j = n + 1:=by omega
      subst e
      have A:=ih n (Nat.le_refl n)
      exact ⟨fun c X G e p h=>e_ok A G h,fun c X G e p h=>t_ok A G h,fun c X G e op ps pos h=>w_ok A G h,fun c X G hf ss ps h=>ss_ok ih G hf h⟩
structure FText (K : PySem.W.Frag) (mg : Str→Option Value) (fns : List Fn) (names : List Str) (glo : Glo) (f : Nat) (x : Str) : Prop where
  ex : ∃ (fa : Addr) (fd : FuncData) (st : Stmt) (N ps : List Str) (F : Fn),fns[f]? = some F∧Fun K x x st fa fd∧mg x = some (.ref fa)∧Binds K fd ps []∧FnScope N ps (defScope st)∧CkSs ⟨N,defScope st,names,glo⟩ F.body (defBody st)∧F.np = ps.length∧F.nl = N.length
theorem fun_ok {P : Program} {w : World} {K : PySem.W.Frag} {mg : Str→Option Value} {base : Heap} {fns : List Fn} {names : List Str} {glo : Glo} {n f : Nat} {x : Str} {fa : Addr} {fd : FuncData} {st : Stmt} {N ps : List Str} {F : Fn} (ih : FTab P w K mg base fns names n) (Mg : Mo K mg glo w.params)
    (hF : fns[f]? = some F) (hfun : Fun K x x st fa fd) (hsc : FnScope N ps (defScope st)) (hck : CkSs ⟨N,defScope st,names,glo⟩ F.body (defBody st)) (hnp : F.np = ps.length) (hnl : F.nl = N.length) : FnOk P w K mg base CX0 (n + 1) fa fd ps (spN K fns (n + 1) f):=by
  have unf : ∀ {ds : List D} {st0 st' : Store} {d : D},M.callD fns (n + 1) f ds st0 = some (d,st')→ds.length = F.np∧((M.Lv fns n).ex (ds.map some++List.replicate (F.nl - ds.length) none) st0 F.body).bind (fun p=>match p.1 with
      | .rt d=>some (d,p.2)
      | .nx _=>some (D.non,p.2)
      | _=>none) = some (d,st'):=fun {ds st0 st' d} e=>by
    have e : M.stepCall fns (M.Lv fns n) f ds st0 = some (d,st'):=e
    unfold M.stepCall at e
    rw [hF] at e
    dsimp only at e
    split at e
    · rename_i hl
      exact ⟨hl,e⟩
    · cases e
  refine hfun.ok hsc (fun vs H Q E h=>?_) (fun cdv A outer s H vs Q E hr h=>?_)
  · obtain ⟨m,st0,ds,d,st',_,ix,e,_⟩:=h
    rw [← ix.length,(unf e).1,hnp]
  · obtain ⟨m,st0,ds,d,st',R0,ix,e,q⟩:=h
    obtain ⟨hl,e⟩:=unf e
    obtain ⟨p,e1,e2⟩:=bindO e
    obtain ⟨k,e1⟩:=M.lim1_is e1
    have G : Good fns n ⟨N,defScope st,names,glo⟩ (cxOf CX0 P w K mg base N x (defScope st) fa cdv A outer s H E).nox:=⟨hr,rfl,rfl,rfl,hsc.nd,hsc.kind,ih,Mg,rfl⟩
    refine ⟨_,(allOk fns n k k (Nat.le_refl k)).s _ _ G (fun _=>rfl) F.body (defBody st) hck,?_⟩
    refine ⟨m,st0,ds.map some++List.replicate (F.nl - ds.length) none,p.1,p.2,R0,⟨?_,fun i d0 hi=>?_⟩,e1,fun m1 H1 b1 t1 R1=>?_⟩
    · unfold L2.start
      rw [List.length_append,List.length_append,List.length_map,List.length_map,List.length_replicate,List.length_replicate,hnl,ix.length]
    · unfold L2.start
      by_cases hlt : i < ds.length
      · rw [List.getElem?_append_left (by simpa using hlt),List.getElem?_map] at hi
        have e3 : ds[i]? = some d0:=by
          cases z : ds[i]? with
          | none=>rw [z] at hi; cases hi
          | some y=>rw [z] at hi; cases hi; rfl
        obtain ⟨v,e4,iv⟩:=ix.get e3
        refine ⟨v,?_,iv⟩
        rw [List.getElem?_append_left (by rw [List.length_map,← ix.length]; exact hlt),List.getElem?_map,e4]
        rfl
      · rw [List.getElem?_append_right (by simpa using hlt),List.getElem?_replicate] at hi
        split at hi <;> cases hi
    · cases hp : p.1 with
      | rt d1 =>
        rw [hp] at e2
        cases e2
        exact fun v iv=>q v m1 H1 b1 t1 R1 iv
      | nx τ1 =>
        rw [hp] at e2
        cases e2
        exact fun σ1 S1=>q _ m1 H1 b1 t1 R1 mkNon
      | bk d1=>rw [hp] at e2; cases e2
      | ct d1=>rw [hp] at e2; cases e2
theorem tab_ok {P : Program} {w : World} {K : PySem.W.Frag} {mg : Str→Option Value} {base : Heap} {fns : List Fn} {names : List Str} {glo : Glo} (T : ∀ f x,names[f]? = some x→FText K mg fns names glo f x) (Mg : Mo K mg glo w.params) :
    ∀ n,FTab P w K mg base fns names n:=by
  intro n
  induction n with
  | zero =>
    intro f x hx
    obtain ⟨fa,fd,st,N,ps,F,hF,hfun,hm,hb,hsc,hck,hnp,hnl⟩:=(T f x hx).ex
    refine ⟨fa,fd,ps,hm,?_,hfun.kp,hb⟩
    refine ⟨fun vs H Q E h=>?_,fun A outer s H args us vs Q E hr he hbb hv h=>?_⟩
    · obtain ⟨m,st,ds,d,st',_,_,e,_⟩:=h; cases e
    · obtain ⟨m,st,ds,d,st',_,_,e,_⟩:=h; cases e
  | succ n ih =>
    intro f x hx
    obtain ⟨fa,fd,st,N,ps,F,hF,hfun,hm,hb,hsc,hck,hnp,hnl⟩:=(T f x hx).ex
    exact ⟨fa,fd,ps,hm,fun_ok ih Mg hF hfun hsc hck hnp hnl,hfun.kp,hb⟩
noncomputable def spLaw (K : PySem.W.Frag) : Sp:=fun vs H Q _=>∃ (a : Addr) (ns : List Int),vs = [.ref a]∧SqF K H a (ns.map V.int)∧ns.length ≤ 63∧∀ H',Q (.bl true) H'
theorem law_sp {K : PySem.W.Frag} {fns : List Fn} {n f : Nat} (h : ∀ ns : List Int,ns.length ≤ 63→∃ st',M.callD fns n f [.lst (ns.map D.int)] [] = some (.bl true,st')) (vs : List V) (H : Hp) (Q : VK) (E : XK) (q : spLaw K vs H Q E) : spN K fns n f vs H Q E:=by
  obtain ⟨a,ns,rfl,hS,hl,k⟩:=q
  obtain ⟨st',e⟩:=h ns hl
  refine ⟨[],[],[.lst (ns.map D.int)],.bl true,st',⟨rfl,fun l l' b c c' e1 e2 e3 e4 w w'=>?_,fun l c b e1 e2=>?_⟩,mkCons (mkLst hS (isDs_ints ns)) mkNil,e,fun v m' H' _ _ _ i=>?_⟩
  · simp at e3
  · simp at e1
  · rw [i.bl]; exact k H'
theorem only_sq {K : PySem.W.Frag} {H : Hp} {a : Addr} {xs : List V} (hO : Only H) (h : SqL K H a xs) : SqF K H a xs:=by
  rcases h with (h | ⟨o,h⟩) | h
  · rcases hO a with z | ⟨ob,ys,z⟩
    · rw [h] at z; cases z
    · rw [h] at z; cases z
  · exact .inl ⟨o,h⟩
  · exact .inr h
theorem walk_law {l : PySem.W.OpenLaw} {k : Nat} {q : Program} {loose : List Str} {XP : (Str→Option Value)→Heap→Prop} {YP : World→Heap→Prop} {d : DefRec} {K : Params→PySem.W.Frag} {x : Str} (hn : l.most = some 63) (hdf : d.params.defaults = []) (hr : Room k callerA)
    (hY : ∀ (w : World) (h : Heap),YP w h→(K w.params).In h)
    (F : ∀ (w : World) (mg : Str→Option Value) (fa : Addr) (h : Heap),(K w.params).In h→h.Ns mainGlobals mg→mg d.name = some (.ref fa) →
      ∃ fd : FuncData,(∀ (s : Shared) (u : Value),BindsTo s fd ⟨[u],[]⟩ [(x,u)])∧∀ base : Heap,(K w.params).In base→base.Ns mainGlobals mg→FnOk l.prog w (K w.params) mg base CX0 k fa fd [x] (spLaw (K w.params))) :
    PySem.W.WalkO q loose XP YP l.row.toRowW d [] (fun f vs=>PySem.call f vs) :=
  L2.walk_of (n:=63) (k:=k) (x:=x) (CX:=fun _=>CX0) (sp:=fun w=>spLaw (K w.params)) hn (by decide) hdf hr hY F (fun _ _ a ns hl hO hS=>⟨a,ns,rfl,only_sq hO hS,hl,fun _=>rfl⟩) fun _ _ _ _ _ z=>z
noncomputable def srcOk (sr : List (Option Nat)) (N cN : List Str) (scope : Scope) : Bool:=(List.range sr.length).all fun j=>match sr[j]? with
  | some (some i)=>match N[j]? with
    | some x=>cN[i]? == some x && scope.names.lookup x == some .free
    | none=>false
  | _=>true
theorem src_of {sr : List (Option Nat)} {N cN : List Str} {scope : Scope} (h : srcOk sr N cN scope = true) : ∀ (j i : Nat),sr[j]? = some (some i)→∃ x,N[j]? = some x∧cN[i]? = some x∧scope.names.lookup x = some .free:=by
  intro j i e
  unfold srcOk at h
  rw [List.all_eq_true] at h
  have:=h j (List.mem_range.mpr (List.getElem?_eq_some_iff.mp e).1)
  rw [e] at this
  dsimp only at this
  split at this
  · rename_i x hx
    rw [Bool.and_eq_true,beq_iff_eq,beq_iff_eq] at this
    exact ⟨x,hx,this.1,this.2⟩
  · cases this
theorem swaps_or (elt : Expr) (gs : List Comprehension) (sc : Scope) (q : Pos) (t : Str) (p : Pos) (line : Nat) (env : Env) : swapsWith (.ListComp elt gs sc q) (some (.Name t p)) line env = pure false∨swapsWith (.ListComp elt gs sc q) (some (.Name t p)) line env = pure true:=by
  have e : swapsWith (.ListComp elt gs sc q) (some (.Name t p)) line env = pure (env.blockKind == .function && env.kindOf t == some .local && p.line == q.line && !(sc.names.any fun (n,k)=>n == t && (k == .local || k == .cell))):=rfl
  rw [e]
  cases (env.blockKind == .function && env.kindOf t == some .local && p.line == q.line && !(sc.names.any fun (n,k)=>n == t && (k == .local || k == .cell))) with
  | false=>exact .inl rfl
  | true=>exact .inr rfl
end MS
end
namespace K07
open PySem PySem.Spec PyProof.Rows L2 MS
open M (D Cell Store Sl E S T Src Fn Out R)
noncomputable def top (i : Nat) : Stmt:=PySem.Challenge.pw_dipright_k07_facts_written_and_read.main.body.getD i (.Pass ⟨0,0,0,0⟩)
noncomputable def names : List Str:=["all_figures","number","read_numbers","shown_steps","shown_cell","shown","read_steps","read_cell","read_vein","read_fact","_law_draw","_law_same","_law_size","_law_rect","_law_steps","_law_outs","_law_who","_law_pick","_law_vein","_law_claim_fact","_law_fact","_law_dig","_law_pay","_law_bounds","_law_some_fact","_law_written","_law_great","_law_loose_fact","law"]
noncomputable def glo : Glo:=⟨[("FIGURES",(.str (PySem.Str.ofString "0123456789"))),("NO_STEPS",(.str (PySem.Str.ofString "-")))],[("ASKS",[(PySem.Str.ofString "join"),(PySem.Str.ofString "stake"),(PySem.Str.ofString "work"),(PySem.Str.ofString "sell"),(PySem.Str.ofString "part"),(PySem.Str.ofString "give"),(PySem.Str.ofString "dig"),(PySem.Str.ofString "pay")],[(.tup [(.str (PySem.Str.ofString "day")),(.str (PySem.Str.ofString "day")),(.str (PySem.Str.ofString "below"))]),(.tup [(.str (PySem.Str.ofString "folk")),(.str (PySem.Str.ofString "x")),(.str (PySem.Str.ofString "y")),(.str (PySem.Str.ofString "x")),(.str (PySem.Str.ofString "y"))]),(.tup [(.str (PySem.Str.ofString "day"))]),(.tup [(.str (PySem.Str.ofString "day")),(.str (PySem.Str.ofString "folk"))]),(.tup [(.str (PySem.Str.ofString "day")),(.str (PySem.Str.ofString "side")),(.str (PySem.Str.ofString "line")),(.str (PySem.Str.ofString "folk"))]),(.tup [(.str (PySem.Str.ofString "day"))]),(.tup [(.str (PySem.Str.ofString "folk")),(.str (PySem.Str.ofString "x")),(.str (PySem.Str.ofString "y")),(.str (PySem.Str.ofString "x")),(.str (PySem.Str.ofString "y")),(.str (PySem.Str.ofString "floor")),(.str (PySem.Str.ofString "coins"))]),(.tup [(.str (PySem.Str.ofString "folk")),(.str (PySem.Str.ofString "folk")),(.str (PySem.Str.ofString "coins"))])])]⟩
noncomputable abbrev s_all_figures : Stmt:=top 7
theorem sc_all_figures : FnScope ["text"] ["text"] (defScope s_all_figures):=⟨rfl,rfl,rfl,by decide +kernel,rfl,by decide +kernel,by decide +kernel⟩
theorem ck_all_figures : CkSs ⟨["text"],defScope s_all_figures,names,glo⟩ b_all_figures (defBody s_all_figures) :=
    (.cons (.ret (.and2 (.cmp (.var rfl (.inl rfl) rfl rfl) .str rfl) (.bcall rfl (.cons (.gc rfl (fun _ z=>nomatch z) (.comp (N:=["sign"]) rfl (by decide +kernel) (by decide +kernel) (by decide +kernel) rfl (src_of (by decide +kernel)) (by decide +kernel) (fun _ _=>rfl) (.seq (.var rfl (.inl rfl) rfl rfl)) (.var rfl (.inl rfl)) (by decide +kernel) (.cmp (.var rfl (.inl rfl) rfl rfl) (.glo rfl (.head _) rfl) rfl))) .nil))))
    .nil)
noncomputable abbrev s_number : Stmt:=top 8
theorem sc_number : FnScope ["text"] ["text"] (defScope s_number):=⟨rfl,rfl,rfl,by decide +kernel,rfl,by decide +kernel,by decide +kernel⟩
theorem ck_number : CkSs ⟨["text"],defScope s_number,names,glo⟩ b_number (defBody s_number) :=
    (.cons (.ite (.not (.gc rfl (fun _ z=>nomatch z) (.call rfl rfl rfl (.cons (.var rfl (.inl rfl) rfl rfl) .nil)))) (.cons (.ret .non)
    .nil) .nil)
    (.cons (.ite (.and2 (.cmp (.idx (.var rfl (.inl rfl) rfl rfl) .int (fun _ _=>rfl)) .str rfl) (.cmp (.var rfl (.inl rfl) rfl rfl) .str rfl)) (.cons (.ret .non)
    .nil) .nil)
    (.cons (.ret (.bcall rfl (.cons (.var rfl (.inl rfl) rfl rfl) .nil)))
    .nil)))
noncomputable abbrev s_read_numbers : Stmt:=top 9
theorem sc_read_numbers : FnScope ["texts","numbers"] ["texts"] (defScope s_read_numbers):=⟨rfl,rfl,rfl,by decide +kernel,rfl,by decide +kernel,by decide +kernel⟩
theorem ck_read_numbers : CkSs ⟨["texts","numbers"],defScope s_read_numbers,names,glo⟩ b_read_numbers (defBody s_read_numbers) :=
    (.cons (.setC rfl (.inl rfl) (.gc rfl (fun _ z=>nomatch z) (.comp (N:=["text"]) rfl (by decide +kernel) (by decide +kernel) (by decide +kernel) rfl (src_of (by decide +kernel)) (by decide +kernel) (fun _ _=>rfl) (.seq (.var rfl (.inl rfl) rfl rfl)) (.var rfl (.inl rfl)) (by decide +kernel) (.gc rfl (fun _ z=>nomatch z) (.call rfl rfl rfl (.cons (.var rfl (.inl rfl) rfl rfl) .nil))))) ⟨_,_,_,_,rfl⟩ (fun env _=>swaps_or _ _ _ _ _ _ _ env))
    (.cons (.ite (.cmp .non (.var rfl (.inl rfl) rfl rfl) rfl) (.cons .rais
    .nil) .nil)
    (.cons (.ret (.var rfl (.inl rfl) rfl rfl))
    .nil)))
noncomputable abbrev s_shown_steps : Stmt:=top 10
theorem sc_shown_steps : FnScope ["steps"] ["steps"] (defScope s_shown_steps):=⟨rfl,rfl,rfl,by decide +kernel,rfl,by decide +kernel,by decide +kernel⟩
theorem ck_shown_steps : CkSs ⟨["steps"],defScope s_shown_steps,names,glo⟩ b_shown_steps (defBody s_shown_steps) :=
    (.cons (.ite (.not (.var rfl (.inl rfl) rfl rfl)) (.cons (.ret (.glo rfl (.tail _ (.head _)) rfl))
    .nil) .nil)
    (.cons (.ret (.join .str (.gc rfl (fun _ z=>nomatch z) (.comp (N:=["step"]) rfl (by decide +kernel) (by decide +kernel) (by decide +kernel) rfl (src_of (by decide +kernel)) (by decide +kernel) (fun _ _=>rfl) (.seq (.var rfl (.inl rfl) rfl rfl)) (.var rfl (.inl rfl)) (by decide +kernel) (.bcall rfl (.cons (.var rfl (.inl rfl) rfl rfl) .nil)))) (fun _=>rfl) rfl))
    .nil))
noncomputable abbrev s_shown_cell : Stmt:=top 11
theorem sc_shown_cell : FnScope ["cell","x","y"] ["cell"] (defScope s_shown_cell):=⟨rfl,rfl,rfl,by decide +kernel,rfl,by decide +kernel,by decide +kernel⟩
theorem ck_shown_cell : CkSs ⟨["cell","x","y"],defScope s_shown_cell,names,glo⟩ b_shown_cell (defBody s_shown_cell) :=
    (.cons (.set rfl (.inl rfl) (.idx (.var rfl (.inl rfl) rfl rfl) .int (fun _ _=>rfl)) (fun _=>rfl))
    (.cons (.set rfl (.inl rfl) (.idx (.var rfl (.inl rfl) rfl rfl) .int (fun _ _=>rfl)) (fun _=>rfl))
    (.cons (.ret (.fstr (.cons (.fmt (.var rfl (.inl rfl) rfl rfl)) (.cons .str (.cons (.fmt (.var rfl (.inl rfl) rfl rfl)) .nil))) (fun _=>rfl)))
    .nil)))
noncomputable abbrev s_shown : Stmt:=top 12
theorem sc_shown : FnScope ["fact"] ["fact"] (defScope s_shown):=⟨rfl,rfl,rfl,by decide +kernel,rfl,by decide +kernel,by decide +kernel⟩
theorem ck_shown : CkSs ⟨["fact"],defScope s_shown,names,glo⟩ b_shown (defBody s_shown) :=
    (.cons (.ite (.cmp (.idx (.var rfl (.inl rfl) rfl rfl) .int (fun _ _=>rfl)) .str rfl) (.cons (.ret (.join .str (.gc rfl (fun _ z=>nomatch z) (.bin (.gc rfl (fun _ z=>nomatch z) (.lst (.cons .str (.cons (.call rfl rfl rfl (.cons (.idx (.var rfl (.inl rfl) rfl rfl) .int (fun _ _=>rfl)) .nil)) .nil)))) (.gc rfl (fun _ z=>nomatch z) (.comp (N:=["cell"]) rfl (by decide +kernel) (by decide +kernel) (by decide +kernel) rfl (src_of (by decide +kernel)) (by decide +kernel) (fun _ _=>rfl) (.seq (.idx (.var rfl (.inl rfl) rfl rfl) .int (fun _ _=>rfl))) (.var rfl (.inl rfl)) (by decide +kernel) (.gc rfl (fun _ z=>nomatch z) (.call rfl rfl rfl (.cons (.var rfl (.inl rfl) rfl rfl) .nil))))))) (fun _=>rfl) rfl))
    .nil) .nil)
    (.cons (.ret (.join .str (.gc rfl (fun _ z=>nomatch z) (.comp (N:=["thing"]) rfl (by decide +kernel) (by decide +kernel) (by decide +kernel) rfl (src_of (by decide +kernel)) (by decide +kernel) (fun _ _=>rfl) (.seq (.var rfl (.inl rfl) rfl rfl)) (.var rfl (.inl rfl)) (by decide +kernel) (.bcall rfl (.cons (.var rfl (.inl rfl) rfl rfl) .nil)))) (fun _=>rfl) rfl))
    .nil))
noncomputable abbrev s_read_steps : Stmt:=top 13
theorem sc_read_steps : FnScope ["text"] ["text"] (defScope s_read_steps):=⟨rfl,rfl,rfl,by decide +kernel,rfl,by decide +kernel,by decide +kernel⟩
theorem ck_read_steps : CkSs ⟨["text"],defScope s_read_steps,names,glo⟩ b_read_steps (defBody s_read_steps) :=
    (.cons (.ite (.cmp (.var rfl (.inl rfl) rfl rfl) (.glo rfl (.tail _ (.head _)) rfl) rfl) (.cons (.ret (.tup .nil))
    .nil) .nil)
    (.cons (.ite (.not (.gc rfl (fun _ z=>nomatch z) (.call rfl rfl rfl (.cons (.var rfl (.inl rfl) rfl rfl) .nil)))) (.cons .rais
    .nil) .nil)
    (.cons (.ret (.bcall rfl (.cons (.gc rfl (fun _ z=>nomatch z) (.comp (N:=["figure"]) rfl (by decide +kernel) (by decide +kernel) (by decide +kernel) rfl (src_of (by decide +kernel)) (by decide +kernel) (fun _ _=>rfl) (.seq (.var rfl (.inl rfl) rfl rfl)) (.var rfl (.inl rfl)) (by decide +kernel) (.bcall rfl (.cons (.var rfl (.inl rfl) rfl rfl) .nil)))) .nil)))
    .nil)))
noncomputable abbrev s_read_cell : Stmt:=top 14
theorem sc_read_cell : FnScope ["text","numbers"] ["text"] (defScope s_read_cell):=⟨rfl,rfl,rfl,by decide +kernel,rfl,by decide +kernel,by decide +kernel⟩
theorem ck_read_cell : CkSs ⟨["text","numbers"],defScope s_read_cell,names,glo⟩ b_read_cell (defBody s_read_cell) :=
    (.cons (.set rfl (.inl rfl) (.gc rfl (fun _ z=>nomatch z) (.call rfl rfl rfl (.cons (.gc rfl (fun _ z=>nomatch z) (.split (.var rfl (.inl rfl) rfl rfl) .str (fun _=>rfl) rfl)) .nil))) (fun _=>rfl))
    (.cons (.ite (.cmp (.bcall rfl (.cons (.var rfl (.inl rfl) rfl rfl) .nil)) .int rfl) (.cons .rais
    .nil) .nil)
    (.cons (.ret (.bcall rfl (.cons (.var rfl (.inl rfl) rfl rfl) .nil)))
    .nil)))
noncomputable abbrev s_read_vein : Stmt:=top 15
theorem sc_read_vein : FnScope ["texts"] ["texts"] (defScope s_read_vein):=⟨rfl,rfl,rfl,by decide +kernel,rfl,by decide +kernel,by decide +kernel⟩
theorem ck_read_vein : CkSs ⟨["texts"],defScope s_read_vein,names,glo⟩ b_read_vein (defBody s_read_vein) :=
    (.cons (.ite (.cmp (.bcall rfl (.cons (.var rfl (.inl rfl) rfl rfl) .nil)) .int rfl) (.cons .rais
    .nil) .nil)
    (.cons (.ret (.tup (.cons .str (.cons (.gc rfl (fun _ z=>nomatch z) (.call rfl rfl rfl (.cons (.idx (.var rfl (.inl rfl) rfl rfl) .int (fun _ _=>rfl)) .nil))) (.cons (.bcall rfl (.cons (.gc rfl (fun _ z=>nomatch z) (.comp (N:=["text"]) rfl (by decide +kernel) (by decide +kernel) (by decide +kernel) rfl (src_of (by decide +kernel)) (by decide +kernel) (fun _ _=>rfl) (.seq (.gc rfl (fun _ z=>nomatch z) (.sli (.var rfl (.inl rfl) rfl rfl) (.some .int) .none))) (.var rfl (.inl rfl)) (by decide +kernel) (.gc rfl (fun _ z=>nomatch z) (.call rfl rfl rfl (.cons (.var rfl (.inl rfl) rfl rfl) .nil))))) .nil)) .nil)))))
    .nil))
noncomputable abbrev s_read_fact : Stmt:=top 16
theorem sc_read_fact : FnScope ["text","texts","word","numbers"] ["text"] (defScope s_read_fact):=⟨rfl,rfl,rfl,by decide +kernel,rfl,by decide +kernel,by decide +kernel⟩
theorem ck_read_fact : CkSs ⟨["text","texts","word","numbers"],defScope s_read_fact,names,glo⟩ b_read_fact (defBody s_read_fact) :=
    (.cons (.set rfl (.inl rfl) (.gc rfl (fun _ z=>nomatch z) (.split (.var rfl (.inl rfl) rfl rfl) .str (fun _=>rfl) rfl)) (fun _=>rfl))
    (.cons (.set rfl (.inl rfl) (.idx (.var rfl (.inl rfl) rfl rfl) .int (fun _ _=>rfl)) (fun _=>rfl))
    (.cons (.ite (.cmp (.var rfl (.inl rfl) rfl rfl) .str rfl) (.cons (.ret (.call rfl rfl rfl (.cons (.gc rfl (fun _ z=>nomatch z) (.sli (.var rfl (.inl rfl) rfl rfl) (.some .int) .none)) .nil)))
    .nil) .nil)
    (.cons (.ite (.gnin rfl (.head _) rfl (.var rfl (.inl rfl) rfl rfl)) (.cons .rais
    .nil) .nil)
    (.cons (.set rfl (.inl rfl) (.gc rfl (fun _ z=>nomatch z) (.call rfl rfl rfl (.cons (.gc rfl (fun _ z=>nomatch z) (.sli (.var rfl (.inl rfl) rfl rfl) (.some .int) .none)) .nil))) (fun _=>rfl))
    (.cons (.ite (.cmp (.bcall rfl (.cons (.var rfl (.inl rfl) rfl rfl) .nil)) (.bcall rfl (.cons (.gidx rfl (.head _) rfl (.var rfl (.inl rfl) rfl rfl) (fun _ _=>rfl)) .nil)) rfl) (.cons .rais
    .nil) .nil)
    (.cons (.ret (.bin (.tup (.cons (.var rfl (.inl rfl) rfl rfl) .nil)) (.bcall rfl (.cons (.var rfl (.inl rfl) rfl rfl) .nil))))
    .nil)))))))
noncomputable abbrev s_law_draw : Stmt:=top 18
theorem sc_law_draw : FnScope ["_law_script","_law_k","_law_j","_law_many","_law_cell","_law_turn","_law_rest","_law_step","_law_one","_law_two"] ["_law_script","_law_k","_law_j","_law_many"] (defScope s_law_draw):=⟨rfl,rfl,rfl,by decide +kernel,rfl,by decide +kernel,by decide +kernel⟩
theorem ck_law_draw : CkSs ⟨["_law_script","_law_k","_law_j","_law_many","_law_cell","_law_turn","_law_rest","_law_step","_law_one","_law_two"],defScope s_law_draw,names,glo⟩ b_law_draw (defBody s_law_draw) :=
    (.cons (.set rfl (.inl rfl) .int (fun _=>rfl))
    (.cons (.set rfl (.inl rfl) .int (fun _=>rfl))
    (.cons (.ite (.cmp (.bcall rfl (.cons (.var rfl (.inl rfl) rfl rfl) .nil)) .int rfl) (.cons (.set rfl (.inl rfl) (.idx (.var rfl (.inl rfl) rfl rfl) (.bin (.var rfl (.inl rfl) rfl rfl) (.bcall rfl (.cons (.var rfl (.inl rfl) rfl rfl) .nil))) (fun _ _=>rfl)) (fun _=>rfl))
    (.cons (.set rfl (.inl rfl) (.bin (.var rfl (.inl rfl) rfl rfl) (.bcall rfl (.cons (.var rfl (.inl rfl) rfl rfl) .nil))) (fun _=>rfl))
    .nil)) .nil)
    (.cons (.set rfl (.inl rfl) (.var rfl (.inl rfl) rfl rfl) (fun _=>rfl))
    (.cons (.forr (.var rfl (.inl rfl)) (.rng1 rfl (.var rfl (.inl rfl) rfl rfl)) (fun _ _=>rfl) (.cons (.set rfl (.inl rfl) (.bin (.var rfl (.inl rfl) rfl rfl) (.bin .int .int)) (fun _=>rfl))
    .nil))
    (.cons (.ite (.andN (.cmp (.var rfl (.inl rfl) rfl rfl) .int rfl) (.and2 (.cmp (.var rfl (.inl rfl) rfl rfl) (.bin .int .int) rfl) (.cmp (.var rfl (.inl rfl) rfl rfl) .int rfl))) (.cons (.ret (.bin (.bin (.var rfl (.inl rfl) rfl rfl) (.bin .int .int)) (.var rfl (.inl rfl) rfl rfl)))
    .nil) .nil)
    (.cons (.set rfl (.inl rfl) (.bin (.bin (.bin (.bin (.bin (.var rfl (.inl rfl) rfl rfl) .int) (.bin (.var rfl (.inl rfl) rfl rfl) .int)) (.bin (.var rfl (.inl rfl) rfl rfl) .int)) .int) .int) (fun _=>rfl))
    (.cons (.set rfl (.inl rfl) (.bin (.bin (.bin (.var rfl (.inl rfl) rfl rfl) .int) (.bin (.var rfl (.inl rfl) rfl rfl) .int)) .int) (fun _=>rfl))
    (.cons (.set rfl (.inl rfl) (.bin (.bin (.bin (.var rfl (.inl rfl) rfl rfl) (.bin (.bin (.var rfl (.inl rfl) rfl rfl) .int) .int)) (.var rfl (.inl rfl) rfl rfl)) .int) (fun _=>rfl))
    (.cons (.ret (.bin (.bin (.bin (.bin (.bin (.var rfl (.inl rfl) rfl rfl) .int) (.bin (.var rfl (.inl rfl) rfl rfl) .int)) (.bin (.var rfl (.inl rfl) rfl rfl) .int)) .int) (.var rfl (.inl rfl) rfl rfl)))
    .nil))))))))))
noncomputable abbrev s_law_same : Stmt:=top 19
theorem sc_law_same : FnScope ["_law_found","_law_due","_law_like"] ["_law_found","_law_due"] (defScope s_law_same):=⟨rfl,rfl,rfl,by decide +kernel,rfl,by decide +kernel,by decide +kernel⟩
theorem ck_law_same : CkSs ⟨["_law_found","_law_due","_law_like"],defScope s_law_same,names,glo⟩ b_law_same (defBody s_law_same) :=
    (.cons (.ite (.isiN (by decide) rfl (.cons (by decide) rfl (.cons (by decide) rfl .nil)) (.var rfl (.inr (.inl rfl)) rfl rfl)) (.cons (.ite (.or2 (.not (.isiN (by decide) rfl (.cons (by decide) rfl (.cons (by decide) rfl .nil)) (.var rfl (.inr (.inl rfl)) rfl rfl))) (.cmp (.bcall rfl (.cons (.var rfl (.inr (.inl rfl)) rfl rfl) .nil)) (.bcall rfl (.cons (.var rfl (.inr (.inl rfl)) rfl rfl) .nil)) rfl)) (.cons (.ret .bl)
    .nil) .nil)
    (.cons (.set rfl (.inl rfl) (.bcall rfl (.cons (.gc rfl (fun _ z=>nomatch z) (.comp (N:=["_law_k","_law_found","_law_due"]) rfl (by decide +kernel) (by decide +kernel) (by decide +kernel) rfl (src_of (by decide +kernel)) (by decide +kernel) (fun _ _=>rfl) (.rng1 rfl (.bcall rfl (.cons (.var rfl (.inr (.inl rfl)) rfl rfl) .nil))) (.var rfl (.inl rfl)) (by decide +kernel) (.gc rfl (fun _ z=>nomatch z) (.call rfl rfl rfl (.cons (.idx (.var rfl (.inr (.inl rfl)) rfl rfl) (.var rfl (.inl rfl) rfl rfl) (fun _ _=>rfl)) (.cons (.idx (.var rfl (.inr (.inl rfl)) rfl rfl) (.var rfl (.inl rfl) rfl rfl) (fun _ _=>rfl)) .nil)))))) .nil)) (fun _=>rfl))
    (.cons (.ret (.and2 (.var rfl (.inl rfl) rfl rfl) (.cmp (.isi1 rfl (by decide) rfl (.var rfl (.inr (.inl rfl)) rfl rfl)) (.isi1 rfl (by decide) rfl (.var rfl (.inr (.inl rfl)) rfl rfl)) rfl)))
    .nil))) .nil)
    (.cons (.set rfl (.inl rfl) (.cmp (.isi1 rfl (by decide) rfl (.var rfl (.inr (.inl rfl)) rfl rfl)) (.isi1 rfl (by decide) rfl (.var rfl (.inr (.inl rfl)) rfl rfl)) rfl) (fun _=>rfl))
    (.cons (.set rfl (.inl rfl) (.and2 (.var rfl (.inl rfl) rfl rfl) (.cmp (.isi1 rfl (by decide) rfl (.var rfl (.inr (.inl rfl)) rfl rfl)) (.isi1 rfl (by decide) rfl (.var rfl (.inr (.inl rfl)) rfl rfl)) rfl)) (fun _=>rfl))
    (.cons (.ret (.andN (.var rfl (.inl rfl) rfl rfl) (.and2 (.cmp (.isi1 rfl (by decide) rfl (.var rfl (.inr (.inl rfl)) rfl rfl)) (.isi1 rfl (by decide) rfl (.var rfl (.inr (.inl rfl)) rfl rfl)) rfl) (.cmp (.var rfl (.inr (.inl rfl)) rfl rfl) (.var rfl (.inr (.inl rfl)) rfl rfl) rfl))))
    .nil))))
noncomputable abbrev s_law_size : Stmt:=top 20
theorem sc_law_size : FnScope ["_law_script","_law_k","_law_wide","_law_tall","_law_deep","_law_sizes"] ["_law_script","_law_k"] (defScope s_law_size):=⟨rfl,rfl,rfl,by decide +kernel,rfl,by decide +kernel,by decide +kernel⟩
theorem ck_law_size : CkSs ⟨["_law_script","_law_k","_law_wide","_law_tall","_law_deep","_law_sizes"],defScope s_law_size,names,glo⟩ b_law_size (defBody s_law_size) :=
    (.cons (.set rfl (.inl rfl) (.bin .int (.gc rfl (fun _ z=>nomatch z) (.call rfl rfl rfl (.cons (.var rfl (.inl rfl) rfl rfl) (.cons (.var rfl (.inl rfl) rfl rfl) (.cons .int (.cons .int .nil))))))) (fun _=>rfl))
    (.cons (.set rfl (.inl rfl) (.bin .int (.gc rfl (fun _ z=>nomatch z) (.call rfl rfl rfl (.cons (.var rfl (.inl rfl) rfl rfl) (.cons (.var rfl (.inl rfl) rfl rfl) (.cons .int (.cons .int .nil))))))) (fun _=>rfl))
    (.cons (.set rfl (.inl rfl) (.gc rfl (fun _ z=>nomatch z) (.call rfl rfl rfl (.cons (.var rfl (.inl rfl) rfl rfl) (.cons (.var rfl (.inl rfl) rfl rfl) (.cons .int (.cons .int .nil)))))) (fun _=>rfl))
    (.cons (.set rfl (.inl rfl) (.gc rfl (fun _ z=>nomatch z) (.lst (.cons (.tup (.cons .int (.cons (.bin .int (.bin (.var rfl (.inl rfl) rfl rfl) .int)) (.cons (.bin (.var rfl (.inl rfl) rfl rfl) .int) .nil)))) (.cons (.tup (.cons (.bin .int (.bin (.var rfl (.inl rfl) rfl rfl) .int)) (.cons .int (.cons (.bin (.var rfl (.inl rfl) rfl rfl) .int) .nil)))) .nil)))) (fun _=>rfl))
    (.cons (.set rfl (.inl rfl) (.gc rfl (fun _ z=>nomatch z) (.bin (.var rfl (.inl rfl) rfl rfl) (.gc rfl (fun _ z=>nomatch z) (.lst (.cons (.tup (.cons (.bin .int (.bin (.var rfl (.inl rfl) rfl rfl) .int)) (.cons (.bin .int (.bin (.var rfl (.inl rfl) rfl rfl) .int)) (.cons .int .nil)))) (.cons (.tup (.cons (.var rfl (.inl rfl) rfl rfl) (.cons (.var rfl (.inl rfl) rfl rfl) (.cons (.var rfl (.inl rfl) rfl rfl) .nil)))) .nil)))))) (fun _=>rfl))
    (.cons (.ret (.idx (.var rfl (.inl rfl) rfl rfl) (.bcall rfl (.cons .int (.cons (.gc rfl (fun _ z=>nomatch z) (.call rfl rfl rfl (.cons (.var rfl (.inl rfl) rfl rfl) (.cons (.var rfl (.inl rfl) rfl rfl) (.cons .int (.cons .int .nil)))))) .nil))) (fun _ _=>rfl)))
    .nil))))))
noncomputable abbrev s_law_rect : Stmt:=top 21
theorem sc_law_rect : FnScope ["_law_script","_law_k","_law_j","_law_wide","_law_tall","_law_x","_law_y"] ["_law_script","_law_k","_law_j","_law_wide","_law_tall"] (defScope s_law_rect):=⟨rfl,rfl,rfl,by decide +kernel,rfl,by decide +kernel,by decide +kernel⟩
theorem ck_law_rect : CkSs ⟨["_law_script","_law_k","_law_j","_law_wide","_law_tall","_law_x","_law_y"],defScope s_law_rect,names,glo⟩ b_law_rect (defBody s_law_rect) :=
    (.cons (.set rfl (.inl rfl) (.gc rfl (fun _ z=>nomatch z) (.bcall rfl (.cons (.gc rfl (fun _ z=>nomatch z) (.lst (.cons (.call rfl rfl rfl (.cons (.var rfl (.inl rfl) rfl rfl) (.cons (.var rfl (.inl rfl) rfl rfl) (.cons (.var rfl (.inl rfl) rfl rfl) (.cons (.var rfl (.inl rfl) rfl rfl) .nil))))) (.cons (.call rfl rfl rfl (.cons (.var rfl (.inl rfl) rfl rfl) (.cons (.var rfl (.inl rfl) rfl rfl) (.cons (.bin (.var rfl (.inl rfl) rfl rfl) .int) (.cons (.var rfl (.inl rfl) rfl rfl) .nil))))) .nil)))) .nil))) (fun _=>rfl))
    (.cons (.set rfl (.inl rfl) (.gc rfl (fun _ z=>nomatch z) (.bcall rfl (.cons (.gc rfl (fun _ z=>nomatch z) (.lst (.cons (.call rfl rfl rfl (.cons (.var rfl (.inl rfl) rfl rfl) (.cons (.var rfl (.inl rfl) rfl rfl) (.cons (.bin (.var rfl (.inl rfl) rfl rfl) .int) (.cons (.var rfl (.inl rfl) rfl rfl) .nil))))) (.cons (.call rfl rfl rfl (.cons (.var rfl (.inl rfl) rfl rfl) (.cons (.var rfl (.inl rfl) rfl rfl) (.cons (.bin (.var rfl (.inl rfl) rfl rfl) .int) (.cons (.var rfl (.inl rfl) rfl rfl) .nil))))) .nil)))) .nil))) (fun _=>rfl))
    (.cons (.ret (.tup (.cons (.idx (.var rfl (.inl rfl) rfl rfl) .int (fun _ _=>rfl)) (.cons (.idx (.var rfl (.inl rfl) rfl rfl) .int (fun _ _=>rfl)) (.cons (.idx (.var rfl (.inl rfl) rfl rfl) .int (fun _ _=>rfl)) (.cons (.idx (.var rfl (.inl rfl) rfl rfl) .int (fun _ _=>rfl)) .nil))))))
    .nil)))
noncomputable abbrev s_law_steps : Stmt:=top 22
theorem sc_law_steps : FnScope ["_law_script","_law_k","_law_j","_law_deep"] ["_law_script","_law_k","_law_j","_law_deep"] (defScope s_law_steps):=⟨rfl,rfl,rfl,by decide +kernel,rfl,by decide +kernel,by decide +kernel⟩
theorem ck_law_steps : CkSs ⟨["_law_script","_law_k","_law_j","_law_deep"],defScope s_law_steps,names,glo⟩ b_law_steps (defBody s_law_steps) :=
    (.cons (.ret (.bcall rfl (.cons (.gc rfl (fun _ z=>nomatch z) (.comp (N:=["_law_at","_law_script","_law_k","_law_j"]) rfl (by decide +kernel) (by decide +kernel) (by decide +kernel) rfl (src_of (by decide +kernel)) (by decide +kernel) (fun _ _=>rfl) (.rng1 rfl (.var rfl (.inl rfl) rfl rfl)) (.var rfl (.inl rfl)) (by decide +kernel) (.idx (.gc rfl (fun _ z=>nomatch z) (.lst (.cons .int (.cons .int (.cons .int (.cons .int (.cons .int (.cons .int (.cons .int .nil))))))))) (.gc rfl (fun _ z=>nomatch z) (.call rfl rfl rfl (.cons (.var rfl (.inr (.inl rfl)) rfl rfl) (.cons (.var rfl (.inr (.inl rfl)) rfl rfl) (.cons (.bin (.var rfl (.inr (.inl rfl)) rfl rfl) (.var rfl (.inl rfl) rfl rfl)) (.cons .int .nil)))))) (fun _ _=>rfl)))) .nil)))
    .nil)
noncomputable abbrev s_law_outs : Stmt:=top 23
theorem sc_law_outs : FnScope ["_law_script","_law_k","_law_j","_law_size_here","_law_count","_law_first","_law_stride","_law_found","_law_at","_law_place"] ["_law_script","_law_k","_law_j","_law_size_here"] (defScope s_law_outs):=⟨rfl,rfl,rfl,by decide +kernel,rfl,by decide +kernel,by decide +kernel⟩
theorem ck_law_outs : CkSs ⟨["_law_script","_law_k","_law_j","_law_size_here","_law_count","_law_first","_law_stride","_law_found","_law_at","_law_place"],defScope s_law_outs,names,glo⟩ b_law_outs (defBody s_law_outs) :=
    (.cons (.set rfl (.inl rfl) (.bin (.idx (.var rfl (.inl rfl) rfl rfl) .int (fun _ _=>rfl)) (.idx (.var rfl (.inl rfl) rfl rfl) .int (fun _ _=>rfl))) (fun _=>rfl))
    (.cons (.set rfl (.inl rfl) (.gc rfl (fun _ z=>nomatch z) (.call rfl rfl rfl (.cons (.var rfl (.inl rfl) rfl rfl) (.cons (.var rfl (.inl rfl) rfl rfl) (.cons (.var rfl (.inl rfl) rfl rfl) (.cons (.var rfl (.inl rfl) rfl rfl) .nil)))))) (fun _=>rfl))
    (.cons (.set rfl (.inl rfl) (.bin .int (.gc rfl (fun _ z=>nomatch z) (.call rfl rfl rfl (.cons (.var rfl (.inl rfl) rfl rfl) (.cons (.var rfl (.inl rfl) rfl rfl) (.cons (.bin (.var rfl (.inl rfl) rfl rfl) .int) (.cons (.var rfl (.inl rfl) rfl rfl) .nil))))))) (fun _=>rfl))
    (.cons (.set rfl (.inl rfl) (.lst .nil) (fun _=>rfl))
    (.cons (.forr (.var rfl (.inl rfl)) (.rng1 rfl (.bin .int (.gc rfl (fun _ z=>nomatch z) (.call rfl rfl rfl (.cons (.var rfl (.inl rfl) rfl rfl) (.cons (.var rfl (.inl rfl) rfl rfl) (.cons (.bin (.var rfl (.inl rfl) rfl rfl) .int) (.cons (.idx (.gc rfl (fun _ z=>nomatch z) (.lst (.cons .int (.cons .int (.cons .int (.cons .int .nil)))))) (.gc rfl (fun _ z=>nomatch z) (.call rfl rfl rfl (.cons (.var rfl (.inl rfl) rfl rfl) (.cons (.var rfl (.inl rfl) rfl rfl) (.cons (.bin (.var rfl (.inl rfl) rfl rfl) .int) (.cons .int .nil)))))) (fun _ _=>rfl)) .nil)))))))) (fun _ _=>rfl) (.cons (.set rfl (.inl rfl) (.bin (.bin (.var rfl (.inl rfl) rfl rfl) (.bin (.var rfl (.inl rfl) rfl rfl) (.var rfl (.inl rfl) rfl rfl))) (.var rfl (.inl rfl) rfl rfl)) (fun _=>rfl))
    (.cons (.ite (.cmp (.tup (.cons (.bin (.var rfl (.inl rfl) rfl rfl) (.idx (.var rfl (.inl rfl) rfl rfl) .int (fun _ _=>rfl))) (.cons (.bin (.var rfl (.inl rfl) rfl rfl) (.idx (.var rfl (.inl rfl) rfl rfl) .int (fun _ _=>rfl))) .nil))) (.var rfl (.inl rfl) rfl rfl) rfl) (.cons (.expr (.append (.var rfl (.inl rfl) rfl rfl) (.tup (.cons (.bin (.var rfl (.inl rfl) rfl rfl) (.idx (.var rfl (.inl rfl) rfl rfl) .int (fun _ _=>rfl))) (.cons (.bin (.var rfl (.inl rfl) rfl rfl) (.idx (.var rfl (.inl rfl) rfl rfl) .int (fun _ _=>rfl))) .nil))) rfl) (fun _=>rfl))
    .nil) .nil)
    .nil)))
    (.cons (.ret (.bcall rfl (.cons (.var rfl (.inl rfl) rfl rfl) .nil)))
    .nil))))))
noncomputable abbrev s_law_who : Stmt:=top 24
theorem sc_law_who : FnScope ["_law_script","_law_k","_law_j"] ["_law_script","_law_k","_law_j"] (defScope s_law_who):=⟨rfl,rfl,rfl,by decide +kernel,rfl,by decide +kernel,by decide +kernel⟩
theorem ck_law_who : CkSs ⟨["_law_script","_law_k","_law_j"],defScope s_law_who,names,glo⟩ b_law_who (defBody s_law_who) :=
    (.cons (.ret (.bin .int (.gc rfl (fun _ z=>nomatch z) (.call rfl rfl rfl (.cons (.var rfl (.inl rfl) rfl rfl) (.cons (.var rfl (.inl rfl) rfl rfl) (.cons (.var rfl (.inl rfl) rfl rfl) (.cons (.idx (.gc rfl (fun _ z=>nomatch z) (.lst (.cons .int (.cons .int (.cons .int (.cons .int (.cons .int (.cons .int .nil)))))))) (.gc rfl (fun _ z=>nomatch z) (.call rfl rfl rfl (.cons (.var rfl (.inl rfl) rfl rfl) (.cons (.var rfl (.inl rfl) rfl rfl) (.cons (.bin (.var rfl (.inl rfl) rfl rfl) .int) (.cons .int .nil)))))) (fun _ _=>rfl)) .nil))))))))
    .nil)
noncomputable abbrev s_law_pick : Stmt:=top 25
theorem sc_law_pick : FnScope ["_law_script","_law_k","_law_j","_law_names"] ["_law_script","_law_k","_law_j","_law_names"] (defScope s_law_pick):=⟨rfl,rfl,rfl,by decide +kernel,rfl,by decide +kernel,by decide +kernel⟩
theorem ck_law_pick : CkSs ⟨["_law_script","_law_k","_law_j","_law_names"],defScope s_law_pick,names,glo⟩ b_law_pick (defBody s_law_pick) :=
    (.cons (.ite (.or2 (.cmp (.bcall rfl (.cons (.var rfl (.inl rfl) rfl rfl) .nil)) .int rfl) (.cmp (.gc rfl (fun _ z=>nomatch z) (.call rfl rfl rfl (.cons (.var rfl (.inl rfl) rfl rfl) (.cons (.var rfl (.inl rfl) rfl rfl) (.cons (.var rfl (.inl rfl) rfl rfl) (.cons .int .nil)))))) .int rfl)) (.cons (.ret (.bin .int (.gc rfl (fun _ z=>nomatch z) (.call rfl rfl rfl (.cons (.var rfl (.inl rfl) rfl rfl) (.cons (.var rfl (.inl rfl) rfl rfl) (.cons (.bin (.var rfl (.inl rfl) rfl rfl) .int) (.cons .int .nil))))))))
    .nil) .nil)
    (.cons (.ret (.idx (.var rfl (.inl rfl) rfl rfl) (.gc rfl (fun _ z=>nomatch z) (.call rfl rfl rfl (.cons (.var rfl (.inl rfl) rfl rfl) (.cons (.var rfl (.inl rfl) rfl rfl) (.cons (.bin (.var rfl (.inl rfl) rfl rfl) .int) (.cons (.bcall rfl (.cons (.var rfl (.inl rfl) rfl rfl) .nil)) .nil)))))) (fun _ _=>rfl)))
    .nil))
noncomputable abbrev s_law_vein : Stmt:=top 26
theorem sc_law_vein : FnScope ["_law_script","_law_k","_law_size_here"] ["_law_script","_law_k","_law_size_here"] (defScope s_law_vein):=⟨rfl,rfl,rfl,by decide +kernel,rfl,by decide +kernel,by decide +kernel⟩
theorem ck_law_vein : CkSs ⟨["_law_script","_law_k","_law_size_here"],defScope s_law_vein,names,glo⟩ b_law_vein (defBody s_law_vein) :=
    (.cons (.ret (.tup (.cons .str (.cons (.gc rfl (fun _ z=>nomatch z) (.call rfl rfl rfl (.cons (.var rfl (.inl rfl) rfl rfl) (.cons (.var rfl (.inl rfl) rfl rfl) (.cons .int (.cons (.idx (.var rfl (.inl rfl) rfl rfl) .int (fun _ _=>rfl)) .nil)))))) (.cons (.gc rfl (fun _ z=>nomatch z) (.call rfl rfl rfl (.cons (.var rfl (.inl rfl) rfl rfl) (.cons (.var rfl (.inl rfl) rfl rfl) (.cons .int (.cons (.var rfl (.inl rfl) rfl rfl) .nil)))))) .nil)))))
    .nil)
noncomputable abbrev s_law_claim_fact : Stmt:=top 27
theorem sc_law_claim_fact : FnScope ["_law_script","_law_k","_law_way","_law_size_here","_law_names","_law_claim","_law_who_here","_law_side","_law_line"] ["_law_script","_law_k","_law_way","_law_size_here","_law_names"] (defScope s_law_claim_fact):=⟨rfl,rfl,rfl,by decide +kernel,rfl,by decide +kernel,by decide +kernel⟩
theorem ck_law_claim_fact : CkSs ⟨["_law_script","_law_k","_law_way","_law_size_here","_law_names","_law_claim","_law_who_here","_law_side","_law_line"],defScope s_law_claim_fact,names,glo⟩ b_law_claim_fact (defBody s_law_claim_fact) :=
    (.cons (.set rfl (.inl rfl) (.gc rfl (fun _ z=>nomatch z) (.call rfl rfl rfl (.cons (.var rfl (.inl rfl) rfl rfl) (.cons (.var rfl (.inl rfl) rfl rfl) (.cons .int (.cons (.var rfl (.inl rfl) rfl rfl) .nil)))))) (fun _=>rfl))
    (.cons (.set rfl (.inl rfl) (.gc rfl (fun _ z=>nomatch z) (.call rfl rfl rfl (.cons (.var rfl (.inl rfl) rfl rfl) (.cons (.var rfl (.inl rfl) rfl rfl) (.cons .int .nil))))) (fun _=>rfl))
    (.cons (.set rfl (.inl rfl) (.gc rfl (fun _ z=>nomatch z) (.call rfl rfl rfl (.cons (.var rfl (.inl rfl) rfl rfl) (.cons (.var rfl (.inl rfl) rfl rfl) (.cons .int (.cons .int .nil)))))) (fun _=>rfl))
    (.cons (.set rfl (.inl rfl) (.bin .int (.gc rfl (fun _ z=>nomatch z) (.call rfl rfl rfl (.cons (.var rfl (.inl rfl) rfl rfl) (.cons (.var rfl (.inl rfl) rfl rfl) (.cons .int (.cons (.bcall rfl (.cons .int (.cons (.idx (.var rfl (.inl rfl) rfl rfl) (.var rfl (.inl rfl) rfl rfl) (fun _ _=>rfl)) .nil))) .nil))))))) (fun _=>rfl))
    (.cons (.ite (.cmp (.var rfl (.inl rfl) rfl rfl) .int rfl) (.cons (.ret (.tup (.cons .str (.cons (.var rfl (.inl rfl) rfl rfl) .nil))))
    .nil) .nil)
    (.cons (.ret (.idx (.gc rfl (fun _ z=>nomatch z) (.lst (.cons (.tup (.cons .str (.cons (.var rfl (.inl rfl) rfl rfl) (.cons (.var rfl (.inl rfl) rfl rfl) .nil)))) (.cons (.tup (.cons .str (.cons (.var rfl (.inl rfl) rfl rfl) (.cons (.var rfl (.inl rfl) rfl rfl) (.cons (.var rfl (.inl rfl) rfl rfl) (.cons (.var rfl (.inl rfl) rfl rfl) .nil)))))) (.cons (.tup (.cons .str (.cons (.var rfl (.inl rfl) rfl rfl) .nil))) .nil))))) (.bin (.bin (.var rfl (.inl rfl) rfl rfl) .int) .int) (fun _ _=>rfl)))
    .nil))))))
noncomputable abbrev s_law_fact : Stmt:=top 28
theorem sc_law_fact : FnScope ["_law_script","_law_k","_law_size_here","_law_plan","_law_way","_law_veins","_law_names","_law_floor"] ["_law_script","_law_k","_law_size_here","_law_plan"] (defScope s_law_fact):=⟨rfl,rfl,rfl,by decide +kernel,rfl,by decide +kernel,by decide +kernel⟩
theorem ck_law_fact : CkSs ⟨["_law_script","_law_k","_law_size_here","_law_plan","_law_way","_law_veins","_law_names","_law_floor"],defScope s_law_fact,names,glo⟩ b_law_fact (defBody s_law_fact) :=
    (.cons (.set rfl (.inl rfl) (.gc rfl (fun _ z=>nomatch z) (.call rfl rfl rfl (.cons (.var rfl (.inl rfl) rfl rfl) (.cons (.var rfl (.inl rfl) rfl rfl) (.cons .int (.cons .int .nil)))))) (fun _=>rfl))
    (.cons (.setC rfl (.inl rfl) (.gc rfl (fun _ z=>nomatch z) (.compIf (N:=["_law_day","_law_fact_here"]) rfl (by decide +kernel) (by decide +kernel) (by decide +kernel) rfl (src_of (by decide +kernel)) (by decide +kernel) (fun _ _=>rfl) (.seq (.var rfl (.inl rfl) rfl rfl)) (.tup (.cons rfl (.inl rfl) (.cons rfl (.inl rfl) .nil))) (by decide +kernel) (.cmp (.idx (.var rfl (.inl rfl) rfl rfl) .int (fun _ _=>rfl)) .str rfl) (.var rfl (.inl rfl) rfl rfl))) ⟨_,_,_,_,rfl⟩ (fun env _=>swaps_or _ _ _ _ _ _ _ env))
    (.cons (.setC rfl (.inl rfl) (.gc rfl (fun _ z=>nomatch z) (.compIf (N:=["_law_day","_law_fact_here"]) rfl (by decide +kernel) (by decide +kernel) (by decide +kernel) rfl (src_of (by decide +kernel)) (by decide +kernel) (fun _ _=>rfl) (.seq (.var rfl (.inl rfl) rfl rfl)) (.tup (.cons rfl (.inl rfl) (.cons rfl (.inl rfl) .nil))) (by decide +kernel) (.cmp (.idx (.var rfl (.inl rfl) rfl rfl) .int (fun _ _=>rfl)) (.tup (.cons .str (.cons .str .nil))) rfl) (.var rfl (.inl rfl) rfl rfl))) ⟨_,_,_,_,rfl⟩ (fun env _=>swaps_or _ _ _ _ _ _ _ env))
    (.cons (.ite (.or2 (.cmp (.var rfl (.inl rfl) rfl rfl) .int rfl) (.and2 (.cmp (.var rfl (.inl rfl) rfl rfl) .int rfl) (.cmp (.bcall rfl (.cons (.var rfl (.inl rfl) rfl rfl) .nil)) .int rfl))) (.cons (.ret (.call rfl rfl rfl (.cons (.var rfl (.inl rfl) rfl rfl) (.cons (.var rfl (.inl rfl) rfl rfl) (.cons (.var rfl (.inl rfl) rfl rfl) .nil)))))
    .nil) .nil)
    (.cons (.ite (.and2 (.cmp (.var rfl (.inl rfl) rfl rfl) .int rfl) (.cmp (.idx (.var rfl (.inl rfl) rfl rfl) .int (fun _ _=>rfl)) .int rfl)) (.cons (.set rfl (.inl rfl) (.bin .int (.gc rfl (fun _ z=>nomatch z) (.call rfl rfl rfl (.cons (.var rfl (.inl rfl) rfl rfl) (.cons (.var rfl (.inl rfl) rfl rfl) (.cons .int (.cons (.idx (.var rfl (.inl rfl) rfl rfl) .int (fun _ _=>rfl)) .nil))))))) (fun _=>rfl))
    (.cons (.ret (.tup (.cons .str (.cons (.gc rfl (fun _ z=>nomatch z) (.call rfl rfl rfl (.cons (.var rfl (.inl rfl) rfl rfl) (.cons (.var rfl (.inl rfl) rfl rfl) (.cons .int (.cons (.var rfl (.inl rfl) rfl rfl) .nil)))))) (.cons (.gc rfl (fun _ z=>nomatch z) (.call rfl rfl rfl (.cons (.var rfl (.inl rfl) rfl rfl) (.cons (.var rfl (.inl rfl) rfl rfl) (.cons .int (.cons (.var rfl (.inl rfl) rfl rfl) .nil)))))) (.cons (.var rfl (.inl rfl) rfl rfl) .nil))))))
    .nil)) .nil)
    (.cons (.ite (.or2 (.cmp (.var rfl (.inl rfl) rfl rfl) .int rfl) (.and2 (.cmp (.var rfl (.inl rfl) rfl rfl) .int rfl) (.cmp (.bcall rfl (.cons (.var rfl (.inl rfl) rfl rfl) .nil)) .int rfl))) (.cons (.ret (.bin (.tup (.cons .str (.cons (.gc rfl (fun _ z=>nomatch z) (.call rfl rfl rfl (.cons (.var rfl (.inl rfl) rfl rfl) (.cons (.var rfl (.inl rfl) rfl rfl) (.cons .int .nil))))) .nil))) (.gc rfl (fun _ z=>nomatch z) (.call rfl rfl rfl (.cons (.var rfl (.inl rfl) rfl rfl) (.cons (.var rfl (.inl rfl) rfl rfl) (.cons .int (.cons (.idx (.var rfl (.inl rfl) rfl rfl) .int (fun _ _=>rfl)) (.cons (.idx (.var rfl (.inl rfl) rfl rfl) .int (fun _ _=>rfl)) .nil)))))))))
    .nil) .nil)
    (.cons (.ret (.call rfl rfl rfl (.cons (.var rfl (.inl rfl) rfl rfl) (.cons (.var rfl (.inl rfl) rfl rfl) (.cons (.bin (.var rfl (.inl rfl) rfl rfl) .int) (.cons (.var rfl (.inl rfl) rfl rfl) (.cons (.var rfl (.inl rfl) rfl rfl) .nil)))))))
    .nil)))))))
noncomputable abbrev s_law_dig : Stmt:=top 29
theorem sc_law_dig : FnScope ["_law_script","_law_k","_law_size_here","_law_mouth","_law_spot","_law_worth"] ["_law_script","_law_k","_law_size_here"] (defScope s_law_dig):=⟨rfl,rfl,rfl,by decide +kernel,rfl,by decide +kernel,by decide +kernel⟩
theorem ck_law_dig : CkSs ⟨["_law_script","_law_k","_law_size_here","_law_mouth","_law_spot","_law_worth"],defScope s_law_dig,names,glo⟩ b_law_dig (defBody s_law_dig) :=
    (.cons (.set rfl (.inl rfl) (.gc rfl (fun _ z=>nomatch z) (.sli (.gc rfl (fun _ z=>nomatch z) (.call rfl rfl rfl (.cons (.var rfl (.inl rfl) rfl rfl) (.cons (.var rfl (.inl rfl) rfl rfl) (.cons .int (.cons (.idx (.var rfl (.inl rfl) rfl rfl) .int (fun _ _=>rfl)) (.cons (.idx (.var rfl (.inl rfl) rfl rfl) .int (fun _ _=>rfl)) .nil))))))) .none (.some .int))) (fun _=>rfl))
    (.cons (.set rfl (.inl rfl) (.bin (.gc rfl (fun _ z=>nomatch z) (.sli (.gc rfl (fun _ z=>nomatch z) (.call rfl rfl rfl (.cons (.var rfl (.inl rfl) rfl rfl) (.cons (.var rfl (.inl rfl) rfl rfl) (.cons .int (.cons (.idx (.var rfl (.inl rfl) rfl rfl) .int (fun _ _=>rfl)) (.cons (.idx (.var rfl (.inl rfl) rfl rfl) .int (fun _ _=>rfl)) .nil))))))) (.some .int) .none)) (.tup (.cons (.gc rfl (fun _ z=>nomatch z) (.call rfl rfl rfl (.cons (.var rfl (.inl rfl) rfl rfl) (.cons (.var rfl (.inl rfl) rfl rfl) (.cons .int (.cons (.bin (.idx (.var rfl (.inl rfl) rfl rfl) .int (fun _ _=>rfl)) .int) .nil)))))) .nil))) (fun _=>rfl))
    (.cons (.set rfl (.inl rfl) (.bin .int (.gc rfl (fun _ z=>nomatch z) (.call rfl rfl rfl (.cons (.var rfl (.inl rfl) rfl rfl) (.cons (.var rfl (.inl rfl) rfl rfl) (.cons .int (.cons (.idx (.gc rfl (fun _ z=>nomatch z) (.lst (.cons .int (.cons .int (.cons (.bin .int .int) .nil))))) (.gc rfl (fun _ z=>nomatch z) (.call rfl rfl rfl (.cons (.var rfl (.inl rfl) rfl rfl) (.cons (.var rfl (.inl rfl) rfl rfl) (.cons .int (.cons .int .nil)))))) (fun _ _=>rfl)) .nil))))))) (fun _=>rfl))
    (.cons (.ret (.bin (.bin (.bin (.tup (.cons .str (.cons (.gc rfl (fun _ z=>nomatch z) (.call rfl rfl rfl (.cons (.var rfl (.inl rfl) rfl rfl) (.cons (.var rfl (.inl rfl) rfl rfl) (.cons .int .nil))))) .nil))) (.var rfl (.inl rfl) rfl rfl)) (.var rfl (.inl rfl) rfl rfl)) (.tup (.cons (.var rfl (.inl rfl) rfl rfl) .nil))))
    .nil))))
noncomputable abbrev s_law_pay : Stmt:=top 30
theorem sc_law_pay : FnScope ["_law_script","_law_k","_law_giver","_law_taker"] ["_law_script","_law_k"] (defScope s_law_pay):=⟨rfl,rfl,rfl,by decide +kernel,rfl,by decide +kernel,by decide +kernel⟩
theorem ck_law_pay : CkSs ⟨["_law_script","_law_k","_law_giver","_law_taker"],defScope s_law_pay,names,glo⟩ b_law_pay (defBody s_law_pay) :=
    (.cons (.set rfl (.inl rfl) (.gc rfl (fun _ z=>nomatch z) (.call rfl rfl rfl (.cons (.var rfl (.inl rfl) rfl rfl) (.cons (.var rfl (.inl rfl) rfl rfl) (.cons .int .nil))))) (fun _=>rfl))
    (.cons (.set rfl (.inl rfl) (.gc rfl (fun _ z=>nomatch z) (.call rfl rfl rfl (.cons (.var rfl (.inl rfl) rfl rfl) (.cons (.var rfl (.inl rfl) rfl rfl) (.cons .int .nil))))) (fun _=>rfl))
    (.cons (.ite (.cmp (.var rfl (.inl rfl) rfl rfl) (.var rfl (.inl rfl) rfl rfl) rfl) (.cons (.set rfl (.inl rfl) (.bin (.bin (.var rfl (.inl rfl) rfl rfl) .int) .int) (fun _=>rfl))
    .nil) .nil)
    (.cons (.ret (.tup (.cons .str (.cons (.var rfl (.inl rfl) rfl rfl) (.cons (.var rfl (.inl rfl) rfl rfl) (.cons (.bin .int (.gc rfl (fun _ z=>nomatch z) (.call rfl rfl rfl (.cons (.var rfl (.inl rfl) rfl rfl) (.cons (.var rfl (.inl rfl) rfl rfl) (.cons .int (.cons (.idx (.gc rfl (fun _ z=>nomatch z) (.lst (.cons .int (.cons (.bin .int .int) .nil)))) (.gc rfl (fun _ z=>nomatch z) (.call rfl rfl rfl (.cons (.var rfl (.inl rfl) rfl rfl) (.cons (.var rfl (.inl rfl) rfl rfl) (.cons .int (.cons .int .nil)))))) (fun _ _=>rfl)) .nil))))))) .nil))))))
    .nil))))
noncomputable abbrev s_law_bounds : Stmt:=top 31
theorem sc_law_bounds : FnScope ["_law_size_here","_law_word","_law_day","_law_folk","_law_coins","_law_x","_law_y","_law_rows"] ["_law_size_here","_law_word"] (defScope s_law_bounds):=⟨rfl,rfl,rfl,by decide +kernel,rfl,by decide +kernel,by decide +kernel⟩
theorem ck_law_bounds : CkSs ⟨["_law_size_here","_law_word","_law_day","_law_folk","_law_coins","_law_x","_law_y","_law_rows"],defScope s_law_bounds,names,glo⟩ b_law_bounds (defBody s_law_bounds) :=
    (.cons (.set rfl (.inl rfl) (.tup (.cons .int (.cons .int .nil))) (fun _=>rfl))
    (.cons (.set rfl (.inl rfl) (.tup (.cons .int (.cons .int .nil))) (fun _=>rfl))
    (.cons (.set rfl (.inl rfl) (.tup (.cons .int (.cons (.bin .int .int) .nil))) (fun _=>rfl))
    (.cons (.set rfl (.inl rfl) (.tup (.cons .int (.cons (.bin (.idx (.var rfl (.inl rfl) rfl rfl) .int (fun _ _=>rfl)) .int) .nil))) (fun _=>rfl))
    (.cons (.set rfl (.inl rfl) (.tup (.cons .int (.cons (.bin (.idx (.var rfl (.inl rfl) rfl rfl) .int (fun _ _=>rfl)) .int) .nil))) (fun _=>rfl))
    (.cons (.set rfl (.inl rfl) (.dic (.cons .str (.lst (.cons (.var rfl (.inl rfl) rfl rfl) (.cons (.var rfl (.inl rfl) rfl rfl) (.cons (.tup (.cons .int (.cons (.idx (.var rfl (.inl rfl) rfl rfl) .int (fun _ _=>rfl)) .nil))) .nil)))) (.cons .str (.lst (.cons (.var rfl (.inl rfl) rfl rfl) (.cons (.var rfl (.inl rfl) rfl rfl) (.cons (.var rfl (.inl rfl) rfl rfl) (.cons (.var rfl (.inl rfl) rfl rfl) (.cons (.var rfl (.inl rfl) rfl rfl) .nil)))))) (.cons .str (.lst (.cons (.var rfl (.inl rfl) rfl rfl) .nil)) .nil))) (by decide)) (fun _=>rfl))
    (.cons (.dset (.var rfl (.inl rfl) rfl rfl) .str (.lst (.cons (.var rfl (.inl rfl) rfl rfl) (.cons (.var rfl (.inl rfl) rfl rfl) .nil))) (fun _=>rfl))
    (.cons (.dset (.var rfl (.inl rfl) rfl rfl) .str (.lst (.cons (.var rfl (.inl rfl) rfl rfl) (.cons (.tup (.cons .int (.cons .int .nil))) (.cons (.tup (.cons .int (.cons .int .nil))) (.cons (.var rfl (.inl rfl) rfl rfl) .nil))))) (fun _=>rfl))
    (.cons (.dset (.var rfl (.inl rfl) rfl rfl) .str (.lst (.cons (.var rfl (.inl rfl) rfl rfl) .nil)) (fun _=>rfl))
    (.cons (.dset (.var rfl (.inl rfl) rfl rfl) .str (.lst (.cons (.var rfl (.inl rfl) rfl rfl) (.cons (.var rfl (.inl rfl) rfl rfl) (.cons (.var rfl (.inl rfl) rfl rfl) (.cons (.var rfl (.inl rfl) rfl rfl) (.cons (.var rfl (.inl rfl) rfl rfl) (.cons (.tup (.cons .int (.cons (.idx (.var rfl (.inl rfl) rfl rfl) .int (fun _ _=>rfl)) .nil))) (.cons (.var rfl (.inl rfl) rfl rfl) .nil)))))))) (fun _=>rfl))
    (.cons (.dset (.var rfl (.inl rfl) rfl rfl) .str (.lst (.cons (.var rfl (.inl rfl) rfl rfl) (.cons (.var rfl (.inl rfl) rfl rfl) (.cons (.var rfl (.inl rfl) rfl rfl) .nil)))) (fun _=>rfl))
    (.cons (.ret (.dgt (.var rfl (.inl rfl) rfl rfl) (.var rfl (.inl rfl) rfl rfl) (fun _=>rfl) rfl (fun _=>rfl)))
    .nil))))))))))))
noncomputable abbrev s_law_some_fact : Stmt:=top 32
theorem sc_law_some_fact : FnScope ["_law_script","_law_k","_law_size_here","_law_way"] ["_law_script","_law_k","_law_size_here"] (defScope s_law_some_fact):=⟨rfl,rfl,rfl,by decide +kernel,rfl,by decide +kernel,by decide +kernel⟩
theorem ck_law_some_fact : CkSs ⟨["_law_script","_law_k","_law_size_here","_law_way"],defScope s_law_some_fact,names,glo⟩ b_law_some_fact (defBody s_law_some_fact) :=
    (.cons (.set rfl (.inl rfl) (.gc rfl (fun _ z=>nomatch z) (.call rfl rfl rfl (.cons (.var rfl (.inl rfl) rfl rfl) (.cons (.var rfl (.inl rfl) rfl rfl) (.cons .int (.cons .int .nil)))))) (fun _=>rfl))
    (.cons (.ite (.cmp (.var rfl (.inl rfl) rfl rfl) .int rfl) (.cons (.ret (.call rfl rfl rfl (.cons (.var rfl (.inl rfl) rfl rfl) (.cons (.var rfl (.inl rfl) rfl rfl) (.cons (.var rfl (.inl rfl) rfl rfl) .nil)))))
    .nil) .nil)
    (.cons (.ite (.cmp (.var rfl (.inl rfl) rfl rfl) .int rfl) (.cons (.ret (.call rfl rfl rfl (.cons (.var rfl (.inl rfl) rfl rfl) (.cons (.var rfl (.inl rfl) rfl rfl) .nil))))
    .nil) .nil)
    (.cons (.ret (.call rfl rfl rfl (.cons (.var rfl (.inl rfl) rfl rfl) (.cons (.var rfl (.inl rfl) rfl rfl) (.cons (.var rfl (.inl rfl) rfl rfl) (.cons (.gc rfl (fun _ z=>nomatch z) (.lst (.cons (.tup (.cons .int (.cons (.tup (.cons .str .nil)) .nil))) (.cons (.tup (.cons (.bin .int (.gc rfl (fun _ z=>nomatch z) (.call rfl rfl rfl (.cons (.var rfl (.inl rfl) rfl rfl) (.cons (.var rfl (.inl rfl) rfl rfl) (.cons .int (.cons .int .nil))))))) (.cons (.tup (.cons .str .nil)) .nil))) .nil)))) .nil))))))
    .nil))))
noncomputable abbrev s_law_written : Stmt:=top 33
theorem sc_law_written : FnScope ["_law_fact_here","_law_steps_here"] ["_law_fact_here"] (defScope s_law_written):=⟨rfl,rfl,rfl,by decide +kernel,rfl,by decide +kernel,by decide +kernel⟩
theorem ck_law_written : CkSs ⟨["_law_fact_here","_law_steps_here"],defScope s_law_written,names,glo⟩ b_law_written (defBody s_law_written) :=
    (.cons (.ite (.cmp (.idx (.var rfl (.inl rfl) rfl rfl) .int (fun _ _=>rfl)) .str rfl) (.cons (.ret (.join .str (.gc rfl (fun _ z=>nomatch z) (.bin (.gc rfl (fun _ z=>nomatch z) (.lst (.cons (.idx (.var rfl (.inl rfl) rfl rfl) .int (fun _ _=>rfl)) .nil))) (.gc rfl (fun _ z=>nomatch z) (.comp (N:=["_law_thing"]) rfl (by decide +kernel) (by decide +kernel) (by decide +kernel) rfl (src_of (by decide +kernel)) (by decide +kernel) (fun _ _=>rfl) (.seq (.gc rfl (fun _ z=>nomatch z) (.sli (.var rfl (.inl rfl) rfl rfl) (.some .int) .none))) (.var rfl (.inl rfl)) (by decide +kernel) (.bcall rfl (.cons (.var rfl (.inl rfl) rfl rfl) .nil)))))) (fun _=>rfl) rfl))
    .nil) .nil)
    (.cons (.set rfl (.inl rfl) (.join .str (.gc rfl (fun _ z=>nomatch z) (.comp (N:=["_law_step"]) rfl (by decide +kernel) (by decide +kernel) (by decide +kernel) rfl (src_of (by decide +kernel)) (by decide +kernel) (fun _ _=>rfl) (.seq (.idx (.var rfl (.inl rfl) rfl rfl) .int (fun _ _=>rfl))) (.var rfl (.inl rfl)) (by decide +kernel) (.bcall rfl (.cons (.var rfl (.inl rfl) rfl rfl) .nil)))) (fun _=>rfl) rfl) (fun _=>rfl))
    (.cons (.ite (.cmp (.bcall rfl (.cons (.idx (.var rfl (.inl rfl) rfl rfl) .int (fun _ _=>rfl)) .nil)) .int rfl) (.cons (.set rfl (.inl rfl) .str (fun _=>rfl))
    .nil) .nil)
    (.cons (.ret (.join .str (.gc rfl (fun _ z=>nomatch z) (.bin (.gc rfl (fun _ z=>nomatch z) (.lst (.cons .str (.cons (.var rfl (.inl rfl) rfl rfl) .nil)))) (.gc rfl (fun _ z=>nomatch z) (.comp (N:=["_law_cell"]) rfl (by decide +kernel) (by decide +kernel) (by decide +kernel) rfl (src_of (by decide +kernel)) (by decide +kernel) (fun _ _=>rfl) (.seq (.idx (.var rfl (.inl rfl) rfl rfl) .int (fun _ _=>rfl))) (.var rfl (.inl rfl)) (by decide +kernel) (.bin (.bin (.bcall rfl (.cons (.idx (.var rfl (.inl rfl) rfl rfl) .int (fun _ _=>rfl)) .nil)) .str) (.bcall rfl (.cons (.idx (.var rfl (.inl rfl) rfl rfl) .int (fun _ _=>rfl)) .nil))))))) (fun _=>rfl) rfl))
    .nil))))
noncomputable abbrev s_law_great : Stmt:=top 34
theorem sc_law_great : FnScope ["_law_script","_law_k","_law_j","_law_size_here","_law_many"] ["_law_script","_law_k","_law_j"] (defScope s_law_great):=⟨rfl,rfl,rfl,by decide +kernel,rfl,by decide +kernel,by decide +kernel⟩
theorem ck_law_great : CkSs ⟨["_law_script","_law_k","_law_j","_law_size_here","_law_many"],defScope s_law_great,names,glo⟩ b_law_great (defBody s_law_great) :=
    (.cons (.set rfl (.inl rfl) (.idx (.gc rfl (fun _ z=>nomatch z) (.lst (.cons .int (.cons .int (.cons .int (.cons (.bin .int .int) .nil)))))) (.gc rfl (fun _ z=>nomatch z) (.call rfl rfl rfl (.cons (.var rfl (.inl rfl) rfl rfl) (.cons (.var rfl (.inl rfl) rfl rfl) (.cons (.var rfl (.inl rfl) rfl rfl) (.cons .int .nil)))))) (fun _ _=>rfl)) (fun _=>rfl))
    (.cons (.set rfl (.inl rfl) (.gc rfl (fun _ z=>nomatch z) (.call rfl rfl rfl (.cons (.var rfl (.inl rfl) rfl rfl) (.cons (.var rfl (.inl rfl) rfl rfl) (.cons (.bin (.var rfl (.inl rfl) rfl rfl) .int) (.cons (.var rfl (.inl rfl) rfl rfl) .nil)))))) (fun _=>rfl))
    (.cons (.ite (.cmp (.gc rfl (fun _ z=>nomatch z) (.call rfl rfl rfl (.cons (.var rfl (.inl rfl) rfl rfl) (.cons (.var rfl (.inl rfl) rfl rfl) (.cons (.bin (.var rfl (.inl rfl) rfl rfl) .int) (.cons .int .nil)))))) .int rfl) (.cons (.ret (.bin (.bin (.var rfl (.inl rfl) rfl rfl) (.bin .int .int)) (.gc rfl (fun _ z=>nomatch z) (.call rfl rfl rfl (.cons (.var rfl (.inl rfl) rfl rfl) (.cons (.var rfl (.inl rfl) rfl rfl) (.cons (.bin (.var rfl (.inl rfl) rfl rfl) .int) (.cons (.bin .int .int) .nil))))))))
    .nil) .nil)
    (.cons (.ret (.var rfl (.inl rfl) rfl rfl))
    .nil))))
noncomputable abbrev s_law_loose_fact : Stmt:=top 35
theorem sc_law_loose_fact : FnScope ["_law_script","_law_k","_law_words","_law_word","_law_count","_law_steps_here","_law_outs_here","_law_at"] ["_law_script","_law_k"] (defScope s_law_loose_fact):=⟨rfl,rfl,rfl,by decide +kernel,rfl,by decide +kernel,by decide +kernel⟩
theorem ck_law_loose_fact : CkSs ⟨["_law_script","_law_k","_law_words","_law_word","_law_count","_law_steps_here","_law_outs_here","_law_at"],defScope s_law_loose_fact,names,glo⟩ b_law_loose_fact (defBody s_law_loose_fact) :=
    (.cons (.set rfl (.inl rfl) (.gc rfl (fun _ z=>nomatch z) (.lst (.cons .str (.cons .str (.cons .str (.cons .str (.cons .str (.cons .str (.cons .str (.cons .str (.cons .str .nil))))))))))) (fun _=>rfl))
    (.cons (.set rfl (.inl rfl) (.idx (.var rfl (.inl rfl) rfl rfl) (.gc rfl (fun _ z=>nomatch z) (.call rfl rfl rfl (.cons (.var rfl (.inr (.inl rfl)) rfl rfl) (.cons (.var rfl (.inr (.inl rfl)) rfl rfl) (.cons .int (.cons .int .nil)))))) (fun _ _=>rfl)) (fun _=>rfl))
    (.cons (.ite (.cmp (.var rfl (.inl rfl) rfl rfl) .str rfl) (.cons (.set rfl (.inl rfl) (.bcall rfl (.cons (.gc rfl (fun _ z=>nomatch z) (.call rfl rfl rfl (.cons (.tup (.cons .int (.cons .int (.cons .int .nil)))) (.cons (.var rfl (.inl rfl) rfl rfl) .nil)))) .nil)) (fun _=>rfl))
    (.cons (.ret (.bin (.tup (.cons (.var rfl (.inl rfl) rfl rfl) .nil)) (.bcall rfl (.cons (.gc rfl (fun _ z=>nomatch z) (.comp (N:=["_law_at","_law_script","_law_k"]) rfl (by decide +kernel) (by decide +kernel) (by decide +kernel) rfl (src_of (by decide +kernel)) (by decide +kernel) (fun _ _=>rfl) (.rng1 rfl (.var rfl (.inl rfl) rfl rfl)) (.var rfl (.inl rfl)) (by decide +kernel) (.gc rfl (fun _ z=>nomatch z) (.call rfl rfl rfl (.cons (.var rfl (.inr (.inl rfl)) rfl rfl) (.cons (.var rfl (.inr (.inl rfl)) rfl rfl) (.cons (.bin .int (.bin .int (.var rfl (.inl rfl) rfl rfl))) .nil))))))) .nil))))
    .nil)) .nil)
    (.cons (.setC rfl (.inl rfl) (.gc rfl (fun _ z=>nomatch z) (.comp (N:=["_law_at","_law_script","_law_k"]) rfl (by decide +kernel) (by decide +kernel) (by decide +kernel) rfl (src_of (by decide +kernel)) (by decide +kernel) (fun _ _=>rfl) (.rng1 rfl (.gc rfl (fun _ z=>nomatch z) (.call rfl rfl rfl (.cons (.var rfl (.inr (.inl rfl)) rfl rfl) (.cons (.var rfl (.inr (.inl rfl)) rfl rfl) (.cons .int (.cons .int .nil))))))) (.var rfl (.inl rfl)) (by decide +kernel) (.gc rfl (fun _ z=>nomatch z) (.call rfl rfl rfl (.cons (.var rfl (.inr (.inl rfl)) rfl rfl) (.cons (.var rfl (.inr (.inl rfl)) rfl rfl) (.cons (.bin .int (.var rfl (.inl rfl) rfl rfl)) (.cons .int .nil)))))))) ⟨_,_,_,_,rfl⟩ (fun env _=>swaps_or _ _ _ _ _ _ _ env))
    (.cons (.set rfl (.inl rfl) (.lst .nil) (fun _=>rfl))
    (.cons (.forr (.var rfl (.inl rfl)) (.rng1 rfl (.bin .int (.gc rfl (fun _ z=>nomatch z) (.call rfl rfl rfl (.cons (.var rfl (.inr (.inl rfl)) rfl rfl) (.cons (.var rfl (.inr (.inl rfl)) rfl rfl) (.cons .int (.cons .int .nil)))))))) (fun _ _=>rfl) (.cons (.expr (.append (.var rfl (.inl rfl) rfl rfl) (.tup (.cons (.gc rfl (fun _ z=>nomatch z) (.call rfl rfl rfl (.cons (.var rfl (.inr (.inl rfl)) rfl rfl) (.cons (.var rfl (.inr (.inl rfl)) rfl rfl) (.cons (.bin .int (.bin .int (.var rfl (.inl rfl) rfl rfl))) .nil))))) (.cons (.gc rfl (fun _ z=>nomatch z) (.call rfl rfl rfl (.cons (.var rfl (.inr (.inl rfl)) rfl rfl) (.cons (.var rfl (.inr (.inl rfl)) rfl rfl) (.cons (.bin .int (.bin .int (.var rfl (.inl rfl) rfl rfl))) .nil))))) .nil))) rfl) (fun _=>rfl))
    .nil))
    (.cons (.ret (.tup (.cons .str (.cons (.bcall rfl (.cons (.var rfl (.inl rfl) rfl rfl) .nil)) (.cons (.bcall rfl (.cons (.var rfl (.inl rfl) rfl rfl) .nil)) .nil)))))
    .nil)))))))
noncomputable abbrev s_law : Stmt:=top 36
theorem sc_law : FnScope ["_law_script","_law_fact_here","_law_text"] ["_law_script"] (defScope s_law):=⟨rfl,rfl,rfl,by decide +kernel,rfl,by decide +kernel,by decide +kernel⟩
theorem ck_law : CkSs ⟨["_law_script","_law_fact_here","_law_text"],defScope s_law,names,glo⟩ b_law (defBody s_law) :=
    (.cons (.set rfl (.inl rfl) (.gc rfl (fun _ z=>nomatch z) (.call rfl rfl rfl (.cons (.var rfl (.inl rfl) rfl rfl) (.cons .int .nil)))) (fun _=>rfl))
    (.cons (.ite (.cmp (.gc rfl (fun _ z=>nomatch z) (.call rfl rfl rfl (.cons (.var rfl (.inl rfl) rfl rfl) (.cons .int (.cons .int (.cons .int .nil)))))) .int rfl) (.cons (.set rfl (.inl rfl) (.gc rfl (fun _ z=>nomatch z) (.call rfl rfl rfl (.cons (.var rfl (.inl rfl) rfl rfl) (.cons .int (.cons (.gc rfl (fun _ z=>nomatch z) (.call rfl rfl rfl (.cons (.var rfl (.inl rfl) rfl rfl) (.cons .int .nil)))) .nil))))) (fun _=>rfl))
    .nil) .nil)
    (.cons (.set rfl (.inl rfl) (.gc rfl (fun _ z=>nomatch z) (.call rfl rfl rfl (.cons (.var rfl (.inl rfl) rfl rfl) .nil))) (fun _=>rfl))
    (.cons (.ite (.not (.gc rfl (fun _ z=>nomatch z) (.call rfl rfl rfl (.cons (.var rfl (.inl rfl) rfl rfl) (.cons (.gc rfl (fun _ z=>nomatch z) (.call rfl rfl rfl (.cons (.var rfl (.inl rfl) rfl rfl) .nil))) .nil))))) (.cons (.ret .bl)
    .nil) .nil)
    (.cons (.ret (.call rfl rfl rfl (.cons (.gc rfl (fun _ z=>nomatch z) (.call rfl rfl rfl (.cons (.var rfl (.inl rfl) rfl rfl) .nil))) (.cons (.var rfl (.inl rfl) rfl rfl) .nil))))
    .nil)))))
theorem ar1 {P : List Value→Prop} (h : ∀ a,P [a]) : ∀ us : List Value,us.length = 1→P us | [a],_=>h a
theorem ar2 {P : List Value→Prop} (h : ∀ a b,P [a,b]) : ∀ us : List Value,us.length = 2→P us | [a,b],_=>h a b
theorem ar3 {P : List Value→Prop} (h : ∀ a b c,P [a,b,c]) : ∀ us : List Value,us.length = 3→P us | [a,b,c],_=>h a b c
theorem ar4 {P : List Value→Prop} (h : ∀ a b c d,P [a,b,c,d]) : ∀ us : List Value,us.length = 4→P us | [a,b,c,d],_=>h a b c d
theorem ar5 {P : List Value→Prop} (h : ∀ a b c d e,P [a,b,c,d,e]) : ∀ us : List Value,us.length = 5→P us | [a,b,c,d,e],_=>h a b c d e
theorem tb {P : Nat→Str→Prop} {n : Nat} {x : Str} {xs : List Str} (h : P n x) (t : ∀ f y,xs[f]? = some y→P (n + 1 + f) y) : ∀ f y,(x::xs)[f]? = some y→P (n + f) y:=fun f y e=>by
  cases f with
  | zero=>cases e; exact h
  | succ f=>have:=t f y e; rwa [Nat.add_assoc,Nat.add_comm 1 f] at this
theorem tn {P : Nat→Str→Prop} {n : Nat} : ∀ f y,([] : List Str)[f]? = some y→P (n + f) y:=fun f y e=>by cases e
theorem all_mk {l : PySem.W.OpenLaw} {w : World} {K : PySem.W.Frag} {h : Heap} {mg : Str→Option Value} {fa f0 f1 f2 f3 f4 f5 f6 f7 f8 f9 f10 f11 f12 f13 f14 f15 f16 f17 f18 f19 f20 f21 f22 f23 f24 f25 f26 f27 f28 : Addr} (X : K.In h) (G : h.Ns mainGlobals mg) (hfa : mg "law" = some (.ref fa))
    {od0 an0 od1 an1 od2 an2 od3 an3 od4 an4 od5 an5 od6 an6 od7 an7 od8 an8 od9 an9 od10 an10 od11 an11 od12 an12 od13 an13 od14 an14 od15 an15 od16 an16 od17 an17 od18 an18 od19 an19 od20 an20 od21 an21 od22 an22 od23 an23 od24 an24 od25 an25 od26 an26 od27 an27 od28 an28 : Option Addr} {sl0 sl1 sl2 sl3 sl4 sl5 sl6 sl7 sl8 sl9 sl10 sl11 sl12 sl13 sl14 sl15 sl16 sl17 sl18 sl19 sl20 sl21 sl22 sl23 sl24 sl25 sl26 sl27 sl28 : Array (Option Value)} {oc0 kV0 dc0 pm0 cd0 ct0 oc1 kV1 dc1 pm1 cd1 ct1 oc2 kV2 dc2 pm2 cd2 ct2 oc3 kV3 dc3 pm3 cd3 ct3 oc4 kV4 dc4 pm4 cd4 ct4 oc5 kV5 dc5 pm5 cd5 ct5 oc6 kV6 dc6 pm6 cd6 ct6 oc7 kV7 dc7 pm7 cd7 ct7 oc8 kV8 dc8 pm8 cd8 ct8 oc9 kV9 dc9 pm9 cd9 ct9 oc10 kV10 dc10 pm10 cd10 ct10 oc11 kV11 dc11 pm11 cd11 ct11 oc12 kV12 dc12 pm12 cd12 ct12 oc13 kV13 dc13 pm13 cd13 ct13 oc14 kV14 dc14 pm14 cd14 ct14 oc15 kV15 dc15 pm15 cd15 ct15 oc16 kV16 dc16 pm16 cd16 ct16 oc17 kV17 dc17 pm17 cd17 ct17 oc18 kV18 dc18 pm18 cd18 ct18 oc19 kV19 dc19 pm19 cd19 ct19 oc20 kV20 dc20 pm20 cd20 ct20 oc21 kV21 dc21 pm21 cd21 ct21 oc22 kV22 dc22 pm22 cd22 ct22 oc23 kV23 dc23 pm23 cd23 ct23 oc24 kV24 dc24 pm24 cd24 ct24 oc25 kV25 dc25 pm25 cd25 ct25 oc26 kV26 dc26 pm26 cd26 ct26 oc27 kV27 dc27 pm27 cd27 ct27 oc28 kV28 dc28 pm28 cd28 ct28 : Value} {gt0 gt1 gt2 gt3 gt4 gt5 gt6 gt7 gt8 gt9 gt10 gt11 gt12 gt13 gt14 gt15 gt16 gt17 gt18 gt19 gt20 gt21 gt22 gt23 gt24 gt25 gt26 gt27 gt28 gt29 gt30 gt31 gt32 gt33 gt34 gt35 : Tok}
    {gA0 : Addr} {gN0 : Nat}
    {ga0 ga1 ga2 ga3 ga4 ga5 ga6 ga7 : Addr} {gd0 gd1 gd2 gd3 gd4 gd5 gd6 gd7 : Option Addr} {gn0 gn1 gn2 gn3 gn4 gn5 gn6 gn7 : Nat} {gs0 gs1 gs2 gs3 gs4 gs5 gs6 gs7 : Array (Option Value)}
    (a0 : PySem.W.nsIn K mainGlobals "all_figures" = some (some (.ref f0))) (l0 : K.lookup f0 = some ⟨oc0,od0,.func (PySem.W.fnOf "all_figures" "all_figures" (defArgs s_all_figures) (defBody s_all_figures) (defScope s_all_figures) .none kV0 dc0 pm0 an0 cd0 ct0),sl0⟩) (c0 : PySem.W.codeIn K cd0 "all_figures" = true) (k0 : PySem.W.keepIn K (.ref f0) = true)
    (a1 : PySem.W.nsIn K mainGlobals "number" = some (some (.ref f1))) (l1 : K.lookup f1 = some ⟨oc1,od1,.func (PySem.W.fnOf "number" "number" (defArgs s_number) (defBody s_number) (defScope s_number) .none kV1 dc1 pm1 an1 cd1 ct1),sl1⟩) (c1 : PySem.W.codeIn K cd1 "number" = true) (k1 : PySem.W.keepIn K (.ref f1) = true)
    (a2 : PySem.W.nsIn K mainGlobals "read_numbers" = some (some (.ref f2))) (l2 : K.lookup f2 = some ⟨oc2,od2,.func (PySem.W.fnOf "read_numbers" "read_numbers" (defArgs s_read_numbers) (defBody s_read_numbers) (defScope s_read_numbers) .none kV2 dc2 pm2 an2 cd2 ct2),sl2⟩) (c2 : PySem.W.codeIn K cd2 "read_numbers" = true) (k2 : PySem.W.keepIn K (.ref f2) = true)
    (a3 : PySem.W.nsIn K mainGlobals "shown_steps" = some (some (.ref f3))) (l3 : K.lookup f3 = some ⟨oc3,od3,.func (PySem.W.fnOf "shown_steps" "shown_steps" (defArgs s_shown_steps) (defBody s_shown_steps) (defScope s_shown_steps) .none kV3 dc3 pm3 an3 cd3 ct3),sl3⟩) (c3 : PySem.W.codeIn K cd3 "shown_steps" = true) (k3 : PySem.W.keepIn K (.ref f3) = true)
    (a4 : PySem.W.nsIn K mainGlobals "shown_cell" = some (some (.ref f4))) (l4 : K.lookup f4 = some ⟨oc4,od4,.func (PySem.W.fnOf "shown_cell" "shown_cell" (defArgs s_shown_cell) (defBody s_shown_cell) (defScope s_shown_cell) .none kV4 dc4 pm4 an4 cd4 ct4),sl4⟩) (c4 : PySem.W.codeIn K cd4 "shown_cell" = true) (k4 : PySem.W.keepIn K (.ref f4) = true)
    (a5 : PySem.W.nsIn K mainGlobals "shown" = some (some (.ref f5))) (l5 : K.lookup f5 = some ⟨oc5,od5,.func (PySem.W.fnOf "shown" "shown" (defArgs s_shown) (defBody s_shown) (defScope s_shown) .none kV5 dc5 pm5 an5 cd5 ct5),sl5⟩) (c5 : PySem.W.codeIn K cd5 "shown" = true) (k5 : PySem.W.keepIn K (.ref f5) = true)
    (a6 : PySem.W.nsIn K mainGlobals "read_steps" = some (some (.ref f6))) (l6 : K.lookup f6 = some ⟨oc6,od6,.func (PySem.W.fnOf "read_steps" "read_steps" (defArgs s_read_steps) (defBody s_read_steps) (defScope s_read_steps) .none kV6 dc6 pm6 an6 cd6 ct6),sl6⟩) (c6 : PySem.W.codeIn K cd6 "read_steps" = true) (k6 : PySem.W.keepIn K (.ref f6) = true)
    (a7 : PySem.W.nsIn K mainGlobals "read_cell" = some (some (.ref f7))) (l7 : K.lookup f7 = some ⟨oc7,od7,.func (PySem.W.fnOf "read_cell" "read_cell" (defArgs s_read_cell) (defBody s_read_cell) (defScope s_read_cell) .none kV7 dc7 pm7 an7 cd7 ct7),sl7⟩) (c7 : PySem.W.codeIn K cd7 "read_cell" = true) (k7 : PySem.W.keepIn K (.ref f7) = true)
    (a8 : PySem.W.nsIn K mainGlobals "read_vein" = some (some (.ref f8))) (l8 : K.lookup f8 = some ⟨oc8,od8,.func (PySem.W.fnOf "read_vein" "read_vein" (defArgs s_read_vein) (defBody s_read_vein) (defScope s_read_vein) .none kV8 dc8 pm8 an8 cd8 ct8),sl8⟩) (c8 : PySem.W.codeIn K cd8 "read_vein" = true) (k8 : PySem.W.keepIn K (.ref f8) = true)
    (a9 : PySem.W.nsIn K mainGlobals "read_fact" = some (some (.ref f9))) (l9 : K.lookup f9 = some ⟨oc9,od9,.func (PySem.W.fnOf "read_fact" "read_fact" (defArgs s_read_fact) (defBody s_read_fact) (defScope s_read_fact) .none kV9 dc9 pm9 an9 cd9 ct9),sl9⟩) (c9 : PySem.W.codeIn K cd9 "read_fact" = true) (k9 : PySem.W.keepIn K (.ref f9) = true)
    (a10 : PySem.W.nsIn K mainGlobals "_law_draw" = some (some (.ref f10))) (l10 : K.lookup f10 = some ⟨oc10,od10,.func (PySem.W.fnOf "_law_draw" "_law_draw" (defArgs s_law_draw) (defBody s_law_draw) (defScope s_law_draw) .none kV10 dc10 pm10 an10 cd10 ct10),sl10⟩) (c10 : PySem.W.codeIn K cd10 "_law_draw" = true) (k10 : PySem.W.keepIn K (.ref f10) = true)
    (a11 : PySem.W.nsIn K mainGlobals "_law_same" = some (some (.ref f11))) (l11 : K.lookup f11 = some ⟨oc11,od11,.func (PySem.W.fnOf "_law_same" "_law_same" (defArgs s_law_same) (defBody s_law_same) (defScope s_law_same) .none kV11 dc11 pm11 an11 cd11 ct11),sl11⟩) (c11 : PySem.W.codeIn K cd11 "_law_same" = true) (k11 : PySem.W.keepIn K (.ref f11) = true)
    (a12 : PySem.W.nsIn K mainGlobals "_law_size" = some (some (.ref f12))) (l12 : K.lookup f12 = some ⟨oc12,od12,.func (PySem.W.fnOf "_law_size" "_law_size" (defArgs s_law_size) (defBody s_law_size) (defScope s_law_size) .none kV12 dc12 pm12 an12 cd12 ct12),sl12⟩) (c12 : PySem.W.codeIn K cd12 "_law_size" = true) (k12 : PySem.W.keepIn K (.ref f12) = true)
    (a13 : PySem.W.nsIn K mainGlobals "_law_rect" = some (some (.ref f13))) (l13 : K.lookup f13 = some ⟨oc13,od13,.func (PySem.W.fnOf "_law_rect" "_law_rect" (defArgs s_law_rect) (defBody s_law_rect) (defScope s_law_rect) .none kV13 dc13 pm13 an13 cd13 ct13),sl13⟩) (c13 : PySem.W.codeIn K cd13 "_law_rect" = true) (k13 : PySem.W.keepIn K (.ref f13) = true)
    (a14 : PySem.W.nsIn K mainGlobals "_law_steps" = some (some (.ref f14))) (l14 : K.lookup f14 = some ⟨oc14,od14,.func (PySem.W.fnOf "_law_steps" "_law_steps" (defArgs s_law_steps) (defBody s_law_steps) (defScope s_law_steps) .none kV14 dc14 pm14 an14 cd14 ct14),sl14⟩) (c14 : PySem.W.codeIn K cd14 "_law_steps" = true) (k14 : PySem.W.keepIn K (.ref f14) = true)
    (a15 : PySem.W.nsIn K mainGlobals "_law_outs" = some (some (.ref f15))) (l15 : K.lookup f15 = some ⟨oc15,od15,.func (PySem.W.fnOf "_law_outs" "_law_outs" (defArgs s_law_outs) (defBody s_law_outs) (defScope s_law_outs) .none kV15 dc15 pm15 an15 cd15 ct15),sl15⟩) (c15 : PySem.W.codeIn K cd15 "_law_outs" = true) (k15 : PySem.W.keepIn K (.ref f15) = true)
    (a16 : PySem.W.nsIn K mainGlobals "_law_who" = some (some (.ref f16))) (l16 : K.lookup f16 = some ⟨oc16,od16,.func (PySem.W.fnOf "_law_who" "_law_who" (defArgs s_law_who) (defBody s_law_who) (defScope s_law_who) .none kV16 dc16 pm16 an16 cd16 ct16),sl16⟩) (c16 : PySem.W.codeIn K cd16 "_law_who" = true) (k16 : PySem.W.keepIn K (.ref f16) = true)
    (a17 : PySem.W.nsIn K mainGlobals "_law_pick" = some (some (.ref f17))) (l17 : K.lookup f17 = some ⟨oc17,od17,.func (PySem.W.fnOf "_law_pick" "_law_pick" (defArgs s_law_pick) (defBody s_law_pick) (defScope s_law_pick) .none kV17 dc17 pm17 an17 cd17 ct17),sl17⟩) (c17 : PySem.W.codeIn K cd17 "_law_pick" = true) (k17 : PySem.W.keepIn K (.ref f17) = true)
    (a18 : PySem.W.nsIn K mainGlobals "_law_vein" = some (some (.ref f18))) (l18 : K.lookup f18 = some ⟨oc18,od18,.func (PySem.W.fnOf "_law_vein" "_law_vein" (defArgs s_law_vein) (defBody s_law_vein) (defScope s_law_vein) .none kV18 dc18 pm18 an18 cd18 ct18),sl18⟩) (c18 : PySem.W.codeIn K cd18 "_law_vein" = true) (k18 : PySem.W.keepIn K (.ref f18) = true)
    (a19 : PySem.W.nsIn K mainGlobals "_law_claim_fact" = some (some (.ref f19))) (l19 : K.lookup f19 = some ⟨oc19,od19,.func (PySem.W.fnOf "_law_claim_fact" "_law_claim_fact" (defArgs s_law_claim_fact) (defBody s_law_claim_fact) (defScope s_law_claim_fact) .none kV19 dc19 pm19 an19 cd19 ct19),sl19⟩) (c19 : PySem.W.codeIn K cd19 "_law_claim_fact" = true) (k19 : PySem.W.keepIn K (.ref f19) = true)
    (a20 : PySem.W.nsIn K mainGlobals "_law_fact" = some (some (.ref f20))) (l20 : K.lookup f20 = some ⟨oc20,od20,.func (PySem.W.fnOf "_law_fact" "_law_fact" (defArgs s_law_fact) (defBody s_law_fact) (defScope s_law_fact) .none kV20 dc20 pm20 an20 cd20 ct20),sl20⟩) (c20 : PySem.W.codeIn K cd20 "_law_fact" = true) (k20 : PySem.W.keepIn K (.ref f20) = true)
    (a21 : PySem.W.nsIn K mainGlobals "_law_dig" = some (some (.ref f21))) (l21 : K.lookup f21 = some ⟨oc21,od21,.func (PySem.W.fnOf "_law_dig" "_law_dig" (defArgs s_law_dig) (defBody s_law_dig) (defScope s_law_dig) .none kV21 dc21 pm21 an21 cd21 ct21),sl21⟩) (c21 : PySem.W.codeIn K cd21 "_law_dig" = true) (k21 : PySem.W.keepIn K (.ref f21) = true)
    (a22 : PySem.W.nsIn K mainGlobals "_law_pay" = some (some (.ref f22))) (l22 : K.lookup f22 = some ⟨oc22,od22,.func (PySem.W.fnOf "_law_pay" "_law_pay" (defArgs s_law_pay) (defBody s_law_pay) (defScope s_law_pay) .none kV22 dc22 pm22 an22 cd22 ct22),sl22⟩) (c22 : PySem.W.codeIn K cd22 "_law_pay" = true) (k22 : PySem.W.keepIn K (.ref f22) = true)
    (a23 : PySem.W.nsIn K mainGlobals "_law_bounds" = some (some (.ref f23))) (l23 : K.lookup f23 = some ⟨oc23,od23,.func (PySem.W.fnOf "_law_bounds" "_law_bounds" (defArgs s_law_bounds) (defBody s_law_bounds) (defScope s_law_bounds) .none kV23 dc23 pm23 an23 cd23 ct23),sl23⟩) (c23 : PySem.W.codeIn K cd23 "_law_bounds" = true) (k23 : PySem.W.keepIn K (.ref f23) = true)
    (a24 : PySem.W.nsIn K mainGlobals "_law_some_fact" = some (some (.ref f24))) (l24 : K.lookup f24 = some ⟨oc24,od24,.func (PySem.W.fnOf "_law_some_fact" "_law_some_fact" (defArgs s_law_some_fact) (defBody s_law_some_fact) (defScope s_law_some_fact) .none kV24 dc24 pm24 an24 cd24 ct24),sl24⟩) (c24 : PySem.W.codeIn K cd24 "_law_some_fact" = true) (k24 : PySem.W.keepIn K (.ref f24) = true)
    (a25 : PySem.W.nsIn K mainGlobals "_law_written" = some (some (.ref f25))) (l25 : K.lookup f25 = some ⟨oc25,od25,.func (PySem.W.fnOf "_law_written" "_law_written" (defArgs s_law_written) (defBody s_law_written) (defScope s_law_written) .none kV25 dc25 pm25 an25 cd25 ct25),sl25⟩) (c25 : PySem.W.codeIn K cd25 "_law_written" = true) (k25 : PySem.W.keepIn K (.ref f25) = true)
    (a26 : PySem.W.nsIn K mainGlobals "_law_great" = some (some (.ref f26))) (l26 : K.lookup f26 = some ⟨oc26,od26,.func (PySem.W.fnOf "_law_great" "_law_great" (defArgs s_law_great) (defBody s_law_great) (defScope s_law_great) .none kV26 dc26 pm26 an26 cd26 ct26),sl26⟩) (c26 : PySem.W.codeIn K cd26 "_law_great" = true) (k26 : PySem.W.keepIn K (.ref f26) = true)
    (a27 : PySem.W.nsIn K mainGlobals "_law_loose_fact" = some (some (.ref f27))) (l27 : K.lookup f27 = some ⟨oc27,od27,.func (PySem.W.fnOf "_law_loose_fact" "_law_loose_fact" (defArgs s_law_loose_fact) (defBody s_law_loose_fact) (defScope s_law_loose_fact) .none kV27 dc27 pm27 an27 cd27 ct27),sl27⟩) (c27 : PySem.W.codeIn K cd27 "_law_loose_fact" = true) (k27 : PySem.W.keepIn K (.ref f27) = true)
    (a28 : PySem.W.nsIn K mainGlobals "law" = some (some (.ref f28))) (l28 : K.lookup f28 = some ⟨oc28,od28,.func (PySem.W.fnOf "law" "law" (defArgs s_law) (defBody s_law) (defScope s_law) .none kV28 dc28 pm28 an28 cd28 ct28),sl28⟩) (c28 : PySem.W.codeIn K cd28 "law" = true) (k28 : PySem.W.keepIn K (.ref f28) = true)
    (gl0 : PySem.W.nsIn K mainGlobals "FIGURES" = some (some (.str (PySem.Str.ofString "0123456789") gt0)))
    (gl1 : PySem.W.nsIn K mainGlobals "NO_STEPS" = some (some (.str (PySem.Str.ofString "-") gt1)))
    (gl2 : PySem.W.nsIn K mainGlobals "ASKS" = some (some (.ref gA0)))
    (gO0 : K.lookup gA0 = some { cls:=.type "dict",data:=.dict #[⟨PyData.keyHash w.params (PySem.Str.ofString "join"),.str (PySem.Str.ofString "join") gt2,(.ref ga0)⟩,⟨PyData.keyHash w.params (PySem.Str.ofString "stake"),.str (PySem.Str.ofString "stake") gt6,(.ref ga1)⟩,⟨PyData.keyHash w.params (PySem.Str.ofString "work"),.str (PySem.Str.ofString "work") gt12,(.ref ga2)⟩,⟨PyData.keyHash w.params (PySem.Str.ofString "sell"),.str (PySem.Str.ofString "sell") gt14,(.ref ga3)⟩,⟨PyData.keyHash w.params (PySem.Str.ofString "part"),.str (PySem.Str.ofString "part") gt17,(.ref ga4)⟩,⟨PyData.keyHash w.params (PySem.Str.ofString "give"),.str (PySem.Str.ofString "give") gt22,(.ref ga5)⟩,⟨PyData.keyHash w.params (PySem.Str.ofString "dig"),.str (PySem.Str.ofString "dig") gt24,(.ref ga6)⟩,⟨PyData.keyHash w.params (PySem.Str.ofString "pay"),.str (PySem.Str.ofString "pay") gt32,(.ref ga7)⟩] gN0 })
    (go0 : K.lookup ga0 = some ⟨.type "tuple",gd0,.seq #[(.str (PySem.Str.ofString "day") gt3),(.str (PySem.Str.ofString "day") gt4),(.str (PySem.Str.ofString "below") gt5)] gn0,gs0⟩)
    (go1 : K.lookup ga1 = some ⟨.type "tuple",gd1,.seq #[(.str (PySem.Str.ofString "folk") gt7),(.str (PySem.Str.ofString "x") gt8),(.str (PySem.Str.ofString "y") gt9),(.str (PySem.Str.ofString "x") gt10),(.str (PySem.Str.ofString "y") gt11)] gn1,gs1⟩)
    (go2 : K.lookup ga2 = some ⟨.type "tuple",gd2,.seq #[(.str (PySem.Str.ofString "day") gt13)] gn2,gs2⟩)
    (go3 : K.lookup ga3 = some ⟨.type "tuple",gd3,.seq #[(.str (PySem.Str.ofString "day") gt15),(.str (PySem.Str.ofString "folk") gt16)] gn3,gs3⟩)
    (go4 : K.lookup ga4 = some ⟨.type "tuple",gd4,.seq #[(.str (PySem.Str.ofString "day") gt18),(.str (PySem.Str.ofString "side") gt19),(.str (PySem.Str.ofString "line") gt20),(.str (PySem.Str.ofString "folk") gt21)] gn4,gs4⟩)
    (go5 : K.lookup ga5 = some ⟨.type "tuple",gd5,.seq #[(.str (PySem.Str.ofString "day") gt23)] gn5,gs5⟩)
    (go6 : K.lookup ga6 = some ⟨.type "tuple",gd6,.seq #[(.str (PySem.Str.ofString "folk") gt25),(.str (PySem.Str.ofString "x") gt26),(.str (PySem.Str.ofString "y") gt27),(.str (PySem.Str.ofString "x") gt28),(.str (PySem.Str.ofString "y") gt29),(.str (PySem.Str.ofString "floor") gt30),(.str (PySem.Str.ofString "coins") gt31)] gn6,gs6⟩)
    (go7 : K.lookup ga7 = some ⟨.type "tuple",gd7,.seq #[(.str (PySem.Str.ofString "folk") gt33),(.str (PySem.Str.ofString "folk") gt34),(.str (PySem.Str.ofString "coins") gt35)] gn7,gs7⟩)
    (gm0 : (gA0 == sysModules) = false)
    (z0 : PySem.W.nsIn K mainGlobals "len" = some none)
    (z1 : PySem.W.nsIn K mainGlobals "min" = some none)
    (z2 : PySem.W.nsIn K mainGlobals "max" = some none)
    (z3 : PySem.W.nsIn K mainGlobals "tuple" = some none)
    (z4 : PySem.W.nsIn K mainGlobals "list" = some none)
    (z5 : PySem.W.nsIn K mainGlobals "all" = some none)
    (z6 : PySem.W.nsIn K mainGlobals "sorted" = some none)
    (z7 : PySem.W.nsIn K mainGlobals "isinstance" = some none)
    (z8 : PySem.W.nsIn K mainGlobals "range" = some none)
    (z9 : PySem.W.nsIn K mainGlobals "int" = some none)
    (z10 : PySem.W.nsIn K mainGlobals "bool" = some none)
    (z11 : PySem.W.nsIn K mainGlobals "str" = some none)
    (z12 : PySem.W.nsIn K mainGlobals "zip" = some none)
    (z13 : PySem.W.nsIn K mainGlobals "any" = some none)
    (z14 : PySem.W.nsIn K mainGlobals "enumerate" = some none)
    (z15 : PySem.W.nsIn K mainGlobals "reversed" = some none)
    (z16 : PySem.W.nsIn K mainGlobals "sum" = some none)
    (z17 : PySem.W.nsIn K mainGlobals "set" = some none)
    (z18 : PySem.W.nsIn K mainGlobals "dict" = some none)
    : ∃ fd : FuncData,(∀ (s : Shared) (v : Value),BindsTo s fd ⟨[v],[]⟩ [("_law_script",v)])∧∀ base : Heap,K.In base→base.Ns mainGlobals mg→FnOk l.prog w K mg base CX0 20 fa fd ["_law_script"] (spLaw K):=by
  have e:=hfa.symm.trans (PySem.W.mg_of X G a28)
  cases e
  have Mg : Mo K mg glo w.params:=⟨fun x ks ds hm=>by
      simp only [glo,List.mem_cons,List.not_mem_nil,or_false,Prod.mk.injEq] at hm
      rcases hm with ⟨rfl,rfl,rfl⟩
      · exact ⟨_,PySem.W.mg_of X G gl2,⟨[(.ref ga0),(.ref ga1),(.ref ga2),(.ref ga3),(.ref ga4),(.ref ga5),(.ref ga6),(.ref ga7)],[(.ref ga0),(.ref ga1),(.ref ga2),(.ref ga3),(.ref ga4),(.ref ga5),(.ref ga6),(.ref ga7)],#[⟨PyData.keyHash w.params (PySem.Str.ofString "join"),.str (PySem.Str.ofString "join") gt2,(.ref ga0)⟩,⟨PyData.keyHash w.params (PySem.Str.ofString "stake"),.str (PySem.Str.ofString "stake") gt6,(.ref ga1)⟩,⟨PyData.keyHash w.params (PySem.Str.ofString "work"),.str (PySem.Str.ofString "work") gt12,(.ref ga2)⟩,⟨PyData.keyHash w.params (PySem.Str.ofString "sell"),.str (PySem.Str.ofString "sell") gt14,(.ref ga3)⟩,⟨PyData.keyHash w.params (PySem.Str.ofString "part"),.str (PySem.Str.ofString "part") gt17,(.ref ga4)⟩,⟨PyData.keyHash w.params (PySem.Str.ofString "give"),.str (PySem.Str.ofString "give") gt22,(.ref ga5)⟩,⟨PyData.keyHash w.params (PySem.Str.ofString "dig"),.str (PySem.Str.ofString "dig") gt24,(.ref ga6)⟩,⟨PyData.keyHash w.params (PySem.Str.ofString "pay"),.str (PySem.Str.ofString "pay") gt32,(.ref ga7)⟩],gN0,gO0,(.cons (.cons (.cons (.cons (.cons (.cons (.cons (.cons .nil)))))))),(.cons (show RelV (.ref ga0) (.ref ga0) from rfl) (.cons (show RelV (.ref ga1) (.ref ga1) from rfl) (.cons (show RelV (.ref ga2) (.ref ga2) from rfl) (.cons (show RelV (.ref ga3) (.ref ga3) from rfl) (.cons (show RelV (.ref ga4) (.ref ga4) from rfl) (.cons (show RelV (.ref ga5) (.ref ga5) from rfl) (.cons (show RelV (.ref ga6) (.ref ga6) from rfl) (.cons (show RelV (.ref ga7) (.ref ga7) from rfl) .nil)))))))),fun m H=>(mkCons (mkTup (xs:=[(.str (PySem.Str.ofString "day")),(.str (PySem.Str.ofString "day")),(.str (PySem.Str.ofString "below"))]) (.inr ⟨_,_,_,go0,rfl,rfl,(by show 3 ≤ sizeLine; decide),(.cons ⟨_,rfl⟩ (.cons ⟨_,rfl⟩ (.cons ⟨_,rfl⟩ .nil)))⟩) (mkCons (mkStr _) (mkCons (mkStr _) (mkCons (mkStr _) mkNil)))) (mkCons (mkTup (xs:=[(.str (PySem.Str.ofString "folk")),(.str (PySem.Str.ofString "x")),(.str (PySem.Str.ofString "y")),(.str (PySem.Str.ofString "x")),(.str (PySem.Str.ofString "y"))]) (.inr ⟨_,_,_,go1,rfl,rfl,(by show 5 ≤ sizeLine; decide),(.cons ⟨_,rfl⟩ (.cons ⟨_,rfl⟩ (.cons ⟨_,rfl⟩ (.cons ⟨_,rfl⟩ (.cons ⟨_,rfl⟩ .nil)))))⟩) (mkCons (mkStr _) (mkCons (mkStr _) (mkCons (mkStr _) (mkCons (mkStr _) (mkCons (mkStr _) mkNil)))))) (mkCons (mkTup (xs:=[(.str (PySem.Str.ofString "day"))]) (.inr ⟨_,_,_,go2,rfl,rfl,(by show 1 ≤ sizeLine; decide),(.cons ⟨_,rfl⟩ .nil)⟩) (mkCons (mkStr _) mkNil)) (mkCons (mkTup (xs:=[(.str (PySem.Str.ofString "day")),(.str (PySem.Str.ofString "folk"))]) (.inr ⟨_,_,_,go3,rfl,rfl,(by show 2 ≤ sizeLine; decide),(.cons ⟨_,rfl⟩ (.cons ⟨_,rfl⟩ .nil))⟩) (mkCons (mkStr _) (mkCons (mkStr _) mkNil))) (mkCons (mkTup (xs:=[(.str (PySem.Str.ofString "day")),(.str (PySem.Str.ofString "side")),(.str (PySem.Str.ofString "line")),(.str (PySem.Str.ofString "folk"))]) (.inr ⟨_,_,_,go4,rfl,rfl,(by show 4 ≤ sizeLine; decide),(.cons ⟨_,rfl⟩ (.cons ⟨_,rfl⟩ (.cons ⟨_,rfl⟩ (.cons ⟨_,rfl⟩ .nil))))⟩) (mkCons (mkStr _) (mkCons (mkStr _) (mkCons (mkStr _) (mkCons (mkStr _) mkNil))))) (mkCons (mkTup (xs:=[(.str (PySem.Str.ofString "day"))]) (.inr ⟨_,_,_,go5,rfl,rfl,(by show 1 ≤ sizeLine; decide),(.cons ⟨_,rfl⟩ .nil)⟩) (mkCons (mkStr _) mkNil)) (mkCons (mkTup (xs:=[(.str (PySem.Str.ofString "folk")),(.str (PySem.Str.ofString "x")),(.str (PySem.Str.ofString "y")),(.str (PySem.Str.ofString "x")),(.str (PySem.Str.ofString "y")),(.str (PySem.Str.ofString "floor")),(.str (PySem.Str.ofString "coins"))]) (.inr ⟨_,_,_,go6,rfl,rfl,(by show 7 ≤ sizeLine; decide),(.cons ⟨_,rfl⟩ (.cons ⟨_,rfl⟩ (.cons ⟨_,rfl⟩ (.cons ⟨_,rfl⟩ (.cons ⟨_,rfl⟩ (.cons ⟨_,rfl⟩ (.cons ⟨_,rfl⟩ .nil)))))))⟩) (mkCons (mkStr _) (mkCons (mkStr _) (mkCons (mkStr _) (mkCons (mkStr _) (mkCons (mkStr _) (mkCons (mkStr _) (mkCons (mkStr _) mkNil)))))))) (mkCons (mkTup (xs:=[(.str (PySem.Str.ofString "folk")),(.str (PySem.Str.ofString "folk")),(.str (PySem.Str.ofString "coins"))]) (.inr ⟨_,_,_,go7,rfl,rfl,(by show 3 ≤ sizeLine; decide),(.cons ⟨_,rfl⟩ (.cons ⟨_,rfl⟩ (.cons ⟨_,rfl⟩ .nil)))⟩) (mkCons (mkStr _) (mkCons (mkStr _) (mkCons (mkStr _) mkNil)))) mkNil))))))))⟩,by decide +kernel,gm0⟩
    ,fun x d hm=>by
      simp only [glo,List.mem_cons,List.not_mem_nil,or_false,Prod.mk.injEq] at hm
      rcases hm with ⟨rfl,rfl⟩ | ⟨rfl,rfl⟩
      · exact ⟨_,(.str (PySem.Str.ofString "0123456789")),PySem.W.mg_of X G gl0,⟨_,rfl⟩,fun m H=>(mkStr _)⟩
      · exact ⟨_,(.str (PySem.Str.ofString "-")),PySem.W.mg_of X G gl1,⟨_,rfl⟩,fun m H=>(mkStr _)⟩
    ,PySem.W.mg_none_of X G z0,PySem.W.mg_none_of X G z1,PySem.W.mg_none_of X G z2,PySem.W.mg_none_of X G z3,PySem.W.mg_none_of X G z4,PySem.W.mg_none_of X G z5,PySem.W.mg_none_of X G z6,PySem.W.mg_none_of X G z7,PySem.W.mg_none_of X G z8,PySem.W.mg_none_of X G z9,PySem.W.mg_none_of X G z10,PySem.W.mg_none_of X G z11,PySem.W.mg_none_of X G z12,PySem.W.mg_none_of X G z13,PySem.W.mg_none_of X G z14,PySem.W.mg_none_of X G z15,PySem.W.mg_none_of X G z16,PySem.W.mg_none_of X G z17,PySem.W.mg_none_of X G z18⟩
  have F0:=fun_mk (st:=s_all_figures) l0 c0 k0
  have b0:=F0.binds (ps:=["text"]) fun _ _ _ _ _ _=>ar1 fun _=>rfl
  have F1:=fun_mk (st:=s_number) l1 c1 k1
  have b1:=F1.binds (ps:=["text"]) fun _ _ _ _ _ _=>ar1 fun _=>rfl
  have F2:=fun_mk (st:=s_read_numbers) l2 c2 k2
  have b2:=F2.binds (ps:=["texts"]) fun _ _ _ _ _ _=>ar1 fun _=>rfl
  have F3:=fun_mk (st:=s_shown_steps) l3 c3 k3
  have b3:=F3.binds (ps:=["steps"]) fun _ _ _ _ _ _=>ar1 fun _=>rfl
  have F4:=fun_mk (st:=s_shown_cell) l4 c4 k4
  have b4:=F4.binds (ps:=["cell"]) fun _ _ _ _ _ _=>ar1 fun _=>rfl
  have F5:=fun_mk (st:=s_shown) l5 c5 k5
  have b5:=F5.binds (ps:=["fact"]) fun _ _ _ _ _ _=>ar1 fun _=>rfl
  have F6:=fun_mk (st:=s_read_steps) l6 c6 k6
  have b6:=F6.binds (ps:=["text"]) fun _ _ _ _ _ _=>ar1 fun _=>rfl
  have F7:=fun_mk (st:=s_read_cell) l7 c7 k7
  have b7:=F7.binds (ps:=["text"]) fun _ _ _ _ _ _=>ar1 fun _=>rfl
  have F8:=fun_mk (st:=s_read_vein) l8 c8 k8
  have b8:=F8.binds (ps:=["texts"]) fun _ _ _ _ _ _=>ar1 fun _=>rfl
  have F9:=fun_mk (st:=s_read_fact) l9 c9 k9
  have b9:=F9.binds (ps:=["text"]) fun _ _ _ _ _ _=>ar1 fun _=>rfl
  have F10:=fun_mk (st:=s_law_draw) l10 c10 k10
  have b10:=F10.binds (ps:=["_law_script","_law_k","_law_j","_law_many"]) fun _ _ _ _ _ _=>ar4 fun _ _ _ _=>rfl
  have F11:=fun_mk (st:=s_law_same) l11 c11 k11
  have b11:=F11.binds (ps:=["_law_found","_law_due"]) fun _ _ _ _ _ _=>ar2 fun _ _=>rfl
  have F12:=fun_mk (st:=s_law_size) l12 c12 k12
  have b12:=F12.binds (ps:=["_law_script","_law_k"]) fun _ _ _ _ _ _=>ar2 fun _ _=>rfl
  have F13:=fun_mk (st:=s_law_rect) l13 c13 k13
  have b13:=F13.binds (ps:=["_law_script","_law_k","_law_j","_law_wide","_law_tall"]) fun _ _ _ _ _ _=>ar5 fun _ _ _ _ _=>rfl
  have F14:=fun_mk (st:=s_law_steps) l14 c14 k14
  have b14:=F14.binds (ps:=["_law_script","_law_k","_law_j","_law_deep"]) fun _ _ _ _ _ _=>ar4 fun _ _ _ _=>rfl
  have F15:=fun_mk (st:=s_law_outs) l15 c15 k15
  have b15:=F15.binds (ps:=["_law_script","_law_k","_law_j","_law_size_here"]) fun _ _ _ _ _ _=>ar4 fun _ _ _ _=>rfl
  have F16:=fun_mk (st:=s_law_who) l16 c16 k16
  have b16:=F16.binds (ps:=["_law_script","_law_k","_law_j"]) fun _ _ _ _ _ _=>ar3 fun _ _ _=>rfl
  have F17:=fun_mk (st:=s_law_pick) l17 c17 k17
  have b17:=F17.binds (ps:=["_law_script","_law_k","_law_j","_law_names"]) fun _ _ _ _ _ _=>ar4 fun _ _ _ _=>rfl
  have F18:=fun_mk (st:=s_law_vein) l18 c18 k18
  have b18:=F18.binds (ps:=["_law_script","_law_k","_law_size_here"]) fun _ _ _ _ _ _=>ar3 fun _ _ _=>rfl
  have F19:=fun_mk (st:=s_law_claim_fact) l19 c19 k19
  have b19:=F19.binds (ps:=["_law_script","_law_k","_law_way","_law_size_here","_law_names"]) fun _ _ _ _ _ _=>ar5 fun _ _ _ _ _=>rfl
  have F20:=fun_mk (st:=s_law_fact) l20 c20 k20
  have b20:=F20.binds (ps:=["_law_script","_law_k","_law_size_here","_law_plan"]) fun _ _ _ _ _ _=>ar4 fun _ _ _ _=>rfl
  have F21:=fun_mk (st:=s_law_dig) l21 c21 k21
  have b21:=F21.binds (ps:=["_law_script","_law_k","_law_size_here"]) fun _ _ _ _ _ _=>ar3 fun _ _ _=>rfl
  have F22:=fun_mk (st:=s_law_pay) l22 c22 k22
  have b22:=F22.binds (ps:=["_law_script","_law_k"]) fun _ _ _ _ _ _=>ar2 fun _ _=>rfl
  have F23:=fun_mk (st:=s_law_bounds) l23 c23 k23
  have b23:=F23.binds (ps:=["_law_size_here","_law_word"]) fun _ _ _ _ _ _=>ar2 fun _ _=>rfl
  have F24:=fun_mk (st:=s_law_some_fact) l24 c24 k24
  have b24:=F24.binds (ps:=["_law_script","_law_k","_law_size_here"]) fun _ _ _ _ _ _=>ar3 fun _ _ _=>rfl
  have F25:=fun_mk (st:=s_law_written) l25 c25 k25
  have b25:=F25.binds (ps:=["_law_fact_here"]) fun _ _ _ _ _ _=>ar1 fun _=>rfl
  have F26:=fun_mk (st:=s_law_great) l26 c26 k26
  have b26:=F26.binds (ps:=["_law_script","_law_k","_law_j"]) fun _ _ _ _ _ _=>ar3 fun _ _ _=>rfl
  have F27:=fun_mk (st:=s_law_loose_fact) l27 c27 k27
  have b27:=F27.binds (ps:=["_law_script","_law_k"]) fun _ _ _ _ _ _=>ar2 fun _ _=>rfl
  have F28:=fun_mk (st:=s_law) l28 c28 k28
  have b28:=F28.binds (ps:=["_law_script"]) fun _ _ _ _ _ _=>ar1 fun _=>rfl
  have T : ∀ f x,names[f]? = some x→FText K mg fns names glo (0 + f) x :=
    tb (P:=FText K mg fns names glo) (n:=0) ⟨_,_,s_all_figures,_,_,f_all_figures,rfl,F0,PySem.W.mg_of X G a0,b0,sc_all_figures,ck_all_figures,rfl,rfl⟩ (
    tb (P:=FText K mg fns names glo) (n:=1) ⟨_,_,s_number,_,_,f_number,rfl,F1,PySem.W.mg_of X G a1,b1,sc_number,ck_number,rfl,rfl⟩ (
    tb (P:=FText K mg fns names glo) (n:=2) ⟨_,_,s_read_numbers,_,_,f_read_numbers,rfl,F2,PySem.W.mg_of X G a2,b2,sc_read_numbers,ck_read_numbers,rfl,rfl⟩ (
    tb (P:=FText K mg fns names glo) (n:=3) ⟨_,_,s_shown_steps,_,_,f_shown_steps,rfl,F3,PySem.W.mg_of X G a3,b3,sc_shown_steps,ck_shown_steps,rfl,rfl⟩ (
    tb (P:=FText K mg fns names glo) (n:=4) ⟨_,_,s_shown_cell,_,_,f_shown_cell,rfl,F4,PySem.W.mg_of X G a4,b4,sc_shown_cell,ck_shown_cell,rfl,rfl⟩ (
    tb (P:=FText K mg fns names glo) (n:=5) ⟨_,_,s_shown,_,_,f_shown,rfl,F5,PySem.W.mg_of X G a5,b5,sc_shown,ck_shown,rfl,rfl⟩ (
    tb (P:=FText K mg fns names glo) (n:=6) ⟨_,_,s_read_steps,_,_,f_read_steps,rfl,F6,PySem.W.mg_of X G a6,b6,sc_read_steps,ck_read_steps,rfl,rfl⟩ (
    tb (P:=FText K mg fns names glo) (n:=7) ⟨_,_,s_read_cell,_,_,f_read_cell,rfl,F7,PySem.W.mg_of X G a7,b7,sc_read_cell,ck_read_cell,rfl,rfl⟩ (
    tb (P:=FText K mg fns names glo) (n:=8) ⟨_,_,s_read_vein,_,_,f_read_vein,rfl,F8,PySem.W.mg_of X G a8,b8,sc_read_vein,ck_read_vein,rfl,rfl⟩ (
    tb (P:=FText K mg fns names glo) (n:=9) ⟨_,_,s_read_fact,_,_,f_read_fact,rfl,F9,PySem.W.mg_of X G a9,b9,sc_read_fact,ck_read_fact,rfl,rfl⟩ (
    tb (P:=FText K mg fns names glo) (n:=10) ⟨_,_,s_law_draw,_,_,f_law_draw,rfl,F10,PySem.W.mg_of X G a10,b10,sc_law_draw,ck_law_draw,rfl,rfl⟩ (
    tb (P:=FText K mg fns names glo) (n:=11) ⟨_,_,s_law_same,_,_,f_law_same,rfl,F11,PySem.W.mg_of X G a11,b11,sc_law_same,ck_law_same,rfl,rfl⟩ (
    tb (P:=FText K mg fns names glo) (n:=12) ⟨_,_,s_law_size,_,_,f_law_size,rfl,F12,PySem.W.mg_of X G a12,b12,sc_law_size,ck_law_size,rfl,rfl⟩ (
    tb (P:=FText K mg fns names glo) (n:=13) ⟨_,_,s_law_rect,_,_,f_law_rect,rfl,F13,PySem.W.mg_of X G a13,b13,sc_law_rect,ck_law_rect,rfl,rfl⟩ (
    tb (P:=FText K mg fns names glo) (n:=14) ⟨_,_,s_law_steps,_,_,f_law_steps,rfl,F14,PySem.W.mg_of X G a14,b14,sc_law_steps,ck_law_steps,rfl,rfl⟩ (
    tb (P:=FText K mg fns names glo) (n:=15) ⟨_,_,s_law_outs,_,_,f_law_outs,rfl,F15,PySem.W.mg_of X G a15,b15,sc_law_outs,ck_law_outs,rfl,rfl⟩ (
    tb (P:=FText K mg fns names glo) (n:=16) ⟨_,_,s_law_who,_,_,f_law_who,rfl,F16,PySem.W.mg_of X G a16,b16,sc_law_who,ck_law_who,rfl,rfl⟩ (
    tb (P:=FText K mg fns names glo) (n:=17) ⟨_,_,s_law_pick,_,_,f_law_pick,rfl,F17,PySem.W.mg_of X G a17,b17,sc_law_pick,ck_law_pick,rfl,rfl⟩ (
    tb (P:=FText K mg fns names glo) (n:=18) ⟨_,_,s_law_vein,_,_,f_law_vein,rfl,F18,PySem.W.mg_of X G a18,b18,sc_law_vein,ck_law_vein,rfl,rfl⟩ (
    tb (P:=FText K mg fns names glo) (n:=19) ⟨_,_,s_law_claim_fact,_,_,f_law_claim_fact,rfl,F19,PySem.W.mg_of X G a19,b19,sc_law_claim_fact,ck_law_claim_fact,rfl,rfl⟩ (
    tb (P:=FText K mg fns names glo) (n:=20) ⟨_,_,s_law_fact,_,_,f_law_fact,rfl,F20,PySem.W.mg_of X G a20,b20,sc_law_fact,ck_law_fact,rfl,rfl⟩ (
    tb (P:=FText K mg fns names glo) (n:=21) ⟨_,_,s_law_dig,_,_,f_law_dig,rfl,F21,PySem.W.mg_of X G a21,b21,sc_law_dig,ck_law_dig,rfl,rfl⟩ (
    tb (P:=FText K mg fns names glo) (n:=22) ⟨_,_,s_law_pay,_,_,f_law_pay,rfl,F22,PySem.W.mg_of X G a22,b22,sc_law_pay,ck_law_pay,rfl,rfl⟩ (
    tb (P:=FText K mg fns names glo) (n:=23) ⟨_,_,s_law_bounds,_,_,f_law_bounds,rfl,F23,PySem.W.mg_of X G a23,b23,sc_law_bounds,ck_law_bounds,rfl,rfl⟩ (
    tb (P:=FText K mg fns names glo) (n:=24) ⟨_,_,s_law_some_fact,_,_,f_law_some_fact,rfl,F24,PySem.W.mg_of X G a24,b24,sc_law_some_fact,ck_law_some_fact,rfl,rfl⟩ (
    tb (P:=FText K mg fns names glo) (n:=25) ⟨_,_,s_law_written,_,_,f_law_written,rfl,F25,PySem.W.mg_of X G a25,b25,sc_law_written,ck_law_written,rfl,rfl⟩ (
    tb (P:=FText K mg fns names glo) (n:=26) ⟨_,_,s_law_great,_,_,f_law_great,rfl,F26,PySem.W.mg_of X G a26,b26,sc_law_great,ck_law_great,rfl,rfl⟩ (
    tb (P:=FText K mg fns names glo) (n:=27) ⟨_,_,s_law_loose_fact,_,_,f_law_loose_fact,rfl,F27,PySem.W.mg_of X G a27,b27,sc_law_loose_fact,ck_law_loose_fact,rfl,rfl⟩ (
    tb (P:=FText K mg fns names glo) (n:=28) ⟨_,_,s_law,_,_,f_law,rfl,F28,PySem.W.mg_of X G a28,b28,sc_law,ck_law,rfl,rfl⟩ (
    tn)))))))))))))))))))))))))))))
  have T : ∀ f x,names[f]? = some x→FText K mg fns names glo f x:=fun f x h=>Nat.zero_add f ▸ T f x h
  refine ⟨_,fun s v=>.of_eq rfl,fun base _ _=>(fun_ok (n:=19) (f:=28) (F:=f_law) (tab_ok T Mg _) Mg rfl F28 sc_law ck_law rfl rfl).imp (law_sp K07.law_ok)⟩
end K07
namespace K07
open PySem L2
noncomputable def a0 : Str := .ofString "_law_some_fact"
noncomputable def a1 : Str := .ofString "_law_script"
noncomputable def a2 : Str := .ofString "_law_k"
noncomputable def a3 : Str := .ofString "_law_size_here"
noncomputable def a4 : Str := .ofString "_law_way"
noncomputable def a5 : Str := .ofString "_law_draw"
noncomputable def a6 : Str := .ofString "_law_dig"
noncomputable def a7 : Str := .ofString "_law_pay"
noncomputable def a8 : Str := .ofString "_law_fact"
noncomputable def a9 : Str := .ofString "vein"
noncomputable def a10 : Str := .ofString "stake"
noncomputable def a11 : Str := .ofString "_law_written"
noncomputable def a12 : Str := .ofString "_law_fact_here"
noncomputable def a13 : Str := .ofString " "
noncomputable def a14 : Str := .ofString "join"
noncomputable def a15 : Str := .ofString "str"
noncomputable def a16 : Str := .ofString "_law_thing"
noncomputable def a17 : Str := .ofString ".0"
noncomputable def a18 : Str := .ofString "_law_steps_here"
noncomputable def a19 : Str := .ofString ""
noncomputable def a20 : Str := .ofString "_law_step"
noncomputable def a21 : Str := .ofString "len"
noncomputable def a22 : Str := .ofString "-"
noncomputable def a23 : Str := .ofString "_law_cell"
noncomputable def a24 : Str := .ofString ","
noncomputable def a25 : Str := .ofString "fast"
noncomputable def a26 : Str := .ofString "_law_great"
noncomputable def a27 : Str := .ofString "_law_j"
noncomputable def a28 : Str := .ofString "_law_many"
noncomputable def a29 : Str := .ofString "_law_loose_fact"
noncomputable def a30 : Str := .ofString "_law_words"
noncomputable def a31 : Str := .ofString "work"
noncomputable def a32 : Str := .ofString "sell"
noncomputable def a33 : Str := .ofString "part"
noncomputable def a34 : Str := .ofString "give"
noncomputable def a35 : Str := .ofString "dig"
noncomputable def a36 : Str := .ofString "pay"
noncomputable def a37 : Str := .ofString "_law_word"
noncomputable def a38 : Str := .ofString "_law_count"
noncomputable def a39 : Str := .ofString "_law_bounds"
noncomputable def a40 : Str := .ofString "tuple"
noncomputable def a41 : Str := .ofString "_law_at"
noncomputable def a42 : Str := .ofString "range"
noncomputable def a43 : Str := .ofString "_law_outs_here"
noncomputable def a44 : Str := .ofString "append"
noncomputable def a45 : Str := .ofString "law"
noncomputable def a46 : Str := .ofString "_law_size"
noncomputable def a47 : Str := .ofString "_law_text"
noncomputable def a48 : Str := .ofString "shown"
noncomputable def a49 : Str := .ofString "_law_same"
noncomputable def a50 : Str := .ofString "read_fact"
noncomputable def a51 : Str := .ofString "_law_claim_fact"
noncomputable def a52 : Str := .ofString "_law_names"
noncomputable def a53 : Str := .ofString "_law_claim"
noncomputable def a54 : Str := .ofString "_law_pick"
noncomputable def a55 : Str := .ofString "_law_who_here"
noncomputable def a56 : Str := .ofString "_law_who"
noncomputable def a57 : Str := .ofString "_law_side"
noncomputable def a58 : Str := .ofString "_law_line"
noncomputable def a59 : Str := .ofString "min"
noncomputable def a60 : Str := .ofString "_law_plan"
noncomputable def a61 : Str := .ofString "_law_veins"
noncomputable def a62 : Str := .ofString "_law_day"
noncomputable def a63 : Str := .ofString "_law_vein"
noncomputable def a64 : Str := .ofString "_law_floor"
noncomputable def a65 : Str := .ofString "_law_rect"
noncomputable def a66 : Str := .ofString "_law_mouth"
noncomputable def a67 : Str := .ofString "_law_spot"
noncomputable def a68 : Str := .ofString "_law_worth"
noncomputable def a69 : Str := .ofString "_law_giver"
noncomputable def a70 : Str := .ofString "_law_taker"
noncomputable def a71 : Str := .ofString "_law_folk"
noncomputable def a72 : Str := .ofString "_law_coins"
noncomputable def a73 : Str := .ofString "_law_x"
noncomputable def a74 : Str := .ofString "_law_y"
noncomputable def a75 : Str := .ofString "_law_rows"
noncomputable def a76 : Str := .ofString "get"
noncomputable def a77 : Str := .ofString "_law_steps"
noncomputable def a78 : Str := .ofString "_law_deep"
noncomputable def a79 : Str := .ofString "_law_outs"
noncomputable def a80 : Str := .ofString "_law_first"
noncomputable def a81 : Str := .ofString "_law_stride"
noncomputable def a82 : Str := .ofString "_law_found"
noncomputable def a83 : Str := .ofString "_law_place"
noncomputable def a84 : Str := .ofString "_law_turn"
noncomputable def a85 : Str := .ofString "_law_rest"
noncomputable def a86 : Str := .ofString "_law_one"
noncomputable def a87 : Str := .ofString "_law_two"
noncomputable def a88 : Str := .ofString "_law_due"
noncomputable def a89 : Str := .ofString "isinstance"
noncomputable def a90 : Str := .ofString "list"
noncomputable def a91 : Str := .ofString "_law_like"
noncomputable def a92 : Str := .ofString "all"
noncomputable def a93 : Str := .ofString "int"
noncomputable def a94 : Str := .ofString "bool"
noncomputable def a95 : Str := .ofString "_law_wide"
noncomputable def a96 : Str := .ofString "_law_tall"
noncomputable def a97 : Str := .ofString "_law_sizes"
noncomputable def a98 : Str := .ofString "sorted"
noncomputable def a99 : Str := .ofString "read_steps"
noncomputable def a100 : Str := .ofString "text"
noncomputable def a101 : Str := .ofString "NO_STEPS"
noncomputable def a102 : Str := .ofString "all_figures"
noncomputable def a103 : Str := .ofString "BadText"
noncomputable def a104 : Str := .ofString "steps that are no figures"
noncomputable def a105 : Str := .ofString "figure"
noncomputable def a106 : Str := .ofString "read_cell"
noncomputable def a107 : Str := .ofString "numbers"
noncomputable def a108 : Str := .ofString "read_numbers"
noncomputable def a109 : Str := .ofString "split"
noncomputable def a110 : Str := .ofString "not a cell"
noncomputable def a111 : Str := .ofString "read_vein"
noncomputable def a112 : Str := .ofString "texts"
noncomputable def a113 : Str := .ofString "a vein without a cell"
noncomputable def a114 : Str := .ofString "word"
noncomputable def a115 : Str := .ofString "ASKS"
noncomputable def a116 : Str := .ofString "not a word of a fact"
noncomputable def a117 : Str := .ofString "numbers more or fewer than the word asks"
noncomputable def a118 : Str := .ofString "__name__"
noncomputable def a119 : Str := .ofString "law_dipright_k07_facts_written_and_read"
noncomputable def a120 : Str := .ofString "number"
noncomputable def a121 : Str := .ofString "not a whole number"
noncomputable def a122 : Str := .ofString "shown_steps"
noncomputable def a123 : Str := .ofString "steps"
noncomputable def a124 : Str := .ofString "step"
noncomputable def a125 : Str := .ofString "shown_cell"
noncomputable def a126 : Str := .ofString "cell"
noncomputable def a127 : Str := .ofString "x"
noncomputable def a128 : Str := .ofString "y"
noncomputable def a129 : Str := .ofString "fact"
noncomputable def a130 : Str := .ofString "thing"
noncomputable def a131 : Str := .ofString "dipright.words"
noncomputable def a132 : Str := .ofString "FIGURES"
noncomputable def a133 : Str := .ofString "0123456789"
noncomputable def a134 : Str := .ofString "sign"
noncomputable def a135 : Str := .ofString "0"
noncomputable def a136 : Str := .ofString "dipright.errors"
noncomputable def a137 : Str := .ofString "DiprightError"
noncomputable def a138 : Str := .ofString "ValueError"
noncomputable def a139 : Str := .ofString "day"
noncomputable def a140 : Str := .ofString "below"
noncomputable def a141 : Str := .ofString "folk"
noncomputable def a142 : Str := .ofString "side"
noncomputable def a143 : Str := .ofString "line"
noncomputable def a144 : Str := .ofString "floor"
noncomputable def a145 : Str := .ofString "coins"
noncomputable def a146 : Str := .ofString "/claim/cut.py"
noncomputable def a147 : Str := .ofString "__doc__"
noncomputable def a148 : Str := .ofString "__package__"
noncomputable def a149 : Str := .ofString "__loader__"
noncomputable def a150 : Str := .ofString "__spec__"
noncomputable def a151 : Str := .ofString "__annotations__"
noncomputable def a152 : Str := .ofString "__builtins__"
noncomputable def a153 : Str := .ofString "__file__"
noncomputable def a154 : Str := .ofString "__cached__"
noncomputable def a155 : Str := .ofString "__module__"
noncomputable def a156 : Str := .ofString "__firstlineno__"
noncomputable def a157 : Str := .ofString "__static_attributes__"
noncomputable def a158 : Str := .ofString "__weakref__"
noncomputable def b0 : String := "dict"
noncomputable def b1 : String := "__main__.__loader__#opaque"
noncomputable def b2 : String := "tuple"
noncomputable def b3 : String := "ValueError"
noncomputable def b4 : String := "type"
noncomputable def b5 : String := "Exception"
noncomputable def b6 : String := "BaseException"
noncomputable def b7 : String := "object"
noncomputable def b8 : String := "ValueError.__new__"
noncomputable def b9 : String := "getset_descriptor"
noncomputable def b10 : String := "ExceptionGroup.__weakref__"
noncomputable def b11 : String := "code"
noncomputable def b12 : String := "function"
lay_quick a0 a1 a2 a3 a4 a5 a6 a7 a8 a9 a10 a11 a12 a13 a14 a15 a16 a17 a18 a19 a20 a21 a22 a23 a24 a25 a26 a27 a28 a29 a30 a31 a32 a33 a34 a35 a36 a37 a38 a39 a40 a41 a42 a43 a44 a45 a46 a47 a48 a49 a50 a51 a52 a53 a54 a55 a56 a57 a58 a59 a60 a61 a62 a63 a64 a65 a66 a67 a68 a69 a70 a71 a72 a73 a74 a75 a76 a77 a78 a79 a80 a81 a82 a83 a84 a85 a86 a87 a88 a89 a90 a91 a92 a93 a94 a95 a96 a97 a98 a99 a100 a101 a102 a103 a104 a105 a106 a107 a108 a109 a110 a111 a112 a113 a114 a115 a116 a117 a118 a119 a120 a121 a122 a123 a124 a125 a126 a127 a128 a129 a130 a131 a132 a133 a134 a135 a136 a137 a138 a139 a140 a141 a142 a143 a144 a145 a146 a147 a148 a149 a150 a151 a152 a153 a154 a155 a156 a157 a158 b0 b1 b2 b3 b4 b5 b6 b7 b8 b9 b10 b11 b12
noncomputable def G (t0 t1 t2 t3 t4 t5 t6 t7 t8 t9 t10 t11 t12 t13 t14 t15 t16 t17 t18 t19 t20 t21 t22 t23 t24 t25 t26 t27 t28 t29 t30 t31 t32 t33 t34 t35 t36 t37 t38 t39 t40 t41 t42 t43 t44 t45 t46 t47 t48 t49 t50 t51 t52 t53 t54 t55 t56 t57 t58 t59 t60 t61 t62 t63 t64 t65 t66 t67 t68 t69 t70 t71 t72 t73 t74 t75 t76 t77 t78 t79 t80 t81 t82 t83 t84 t85 t86 t87 t88 t89 t90 t91 t92 t93 t94 t95 t96 t97 t98 t99 t100 t101 t102 t103 t104 t105 t106 t107 t108 t109 t110 t111 t112 t113 t114 t115 t116 t117 t118 t119 t120 t121 t122 t123 t124 t125 t126 t127 t128 t129 t130 t131 t132 t133 t134 t135 t136 t137 t138 t139 t140 t141 t142 t143 t144 t145 t146 : Str) : Program := by
  refine' (?f : (x : Program) → (Str.ofString "_law_some_fact" = t0 → Str.ofString "_law_script" = t1 → Str.ofString "_law_k" = t2 → Str.ofString "_law_size_here" = t3 → Str.ofString "_law_way" = t4 → Str.ofString "_law_draw" = t5 → Str.ofString "_law_dig" = t6 → Str.ofString "_law_pay" = t7 → Str.ofString "_law_fact" = t8 → Str.ofString "vein" = t9 → Str.ofString "stake" = t10 → Str.ofString "_law_written" = t11 → Str.ofString "_law_fact_here" = t12 → Str.ofString " " = t13 → Str.ofString "join" = t14 → Str.ofString "str" = t15 → Str.ofString "_law_thing" = t16 → Str.ofString ".0" = t17 → Str.ofString "_law_steps_here" = t18 → Str.ofString "" = t19 → Str.ofString "_law_step" = t20 → Str.ofString "len" = t21 → Str.ofString "-" = t22 → Str.ofString "_law_cell" = t23 → Str.ofString "," = t24 → Str.ofString "fast" = t25 → Str.ofString "_law_great" = t26 → Str.ofString "_law_j" = t27 → Str.ofString "_law_many" = t28 → Str.ofString "_law_loose_fact" = t29 → Str.ofString "_law_words" = t30 → Str.ofString "work" = t31 → Str.ofString "sell" = t32 → Str.ofString "part" = t33 → Str.ofString "give" = t34 → Str.ofString "dig" = t35 → Str.ofString "pay" = t36 → Str.ofString "_law_word" = t37 → Str.ofString "_law_count" = t38 → Str.ofString "_law_bounds" = t39 → Str.ofString "tuple" = t40 → Str.ofString "_law_at" = t41 → Str.ofString "range" = t42 → Str.ofString "_law_outs_here" = t43 → Str.ofString "append" = t44 → Str.ofString "law" = t45 → Str.ofString "_law_size" = t46 → Str.ofString "_law_text" = t47 → Str.ofString "shown" = t48 → Str.ofString "_law_same" = t49 → Str.ofString "read_fact" = t50 → Str.ofString "_law_claim_fact" = t51 → Str.ofString "_law_names" = t52 → Str.ofString "_law_claim" = t53 → Str.ofString "_law_pick" = t54 → Str.ofString "_law_who_here" = t55 → Str.ofString "_law_who" = t56 → Str.ofString "_law_side" = t57 → Str.ofString "_law_line" = t58 → Str.ofString "min" = t59 → Str.ofString "_law_plan" = t60 → Str.ofString "_law_veins" = t61 → Str.ofString "_law_day" = t62 → Str.ofString "_law_vein" = t63 → Str.ofString "_law_floor" = t64 → Str.ofString "_law_rect" = t65 → Str.ofString "_law_mouth" = t66 → Str.ofString "_law_spot" = t67 → Str.ofString "_law_worth" = t68 → Str.ofString "_law_giver" = t69 → Str.ofString "_law_taker" = t70 → Str.ofString "_law_folk" = t71 → Str.ofString "_law_coins" = t72 → Str.ofString "_law_x" = t73 → Str.ofString "_law_y" = t74 → Str.ofString "_law_rows" = t75 → Str.ofString "get" = t76 → Str.ofString "_law_steps" = t77 → Str.ofString "_law_deep" = t78 → Str.ofString "_law_outs" = t79 → Str.ofString "_law_first" = t80 → Str.ofString "_law_stride" = t81 → Str.ofString "_law_found" = t82 → Str.ofString "_law_place" = t83 → Str.ofString "_law_turn" = t84 → Str.ofString "_law_rest" = t85 → Str.ofString "_law_one" = t86 → Str.ofString "_law_two" = t87 → Str.ofString "_law_due" = t88 → Str.ofString "isinstance" = t89 → Str.ofString "list" = t90 → Str.ofString "_law_like" = t91 → Str.ofString "all" = t92 → Str.ofString "int" = t93 → Str.ofString "bool" = t94 → Str.ofString "_law_wide" = t95 → Str.ofString "_law_tall" = t96 → Str.ofString "_law_sizes" = t97 → Str.ofString "sorted" = t98 → Str.ofString "read_steps" = t99 → Str.ofString "text" = t100 → Str.ofString "NO_STEPS" = t101 → Str.ofString "all_figures" = t102 → Str.ofString "BadText" = t103 → Str.ofString "steps that are no figures" = t104 → Str.ofString "figure" = t105 → Str.ofString "read_cell" = t106 → Str.ofString "numbers" = t107 → Str.ofString "read_numbers" = t108 → Str.ofString "split" = t109 → Str.ofString "not a cell" = t110 → Str.ofString "read_vein" = t111 → Str.ofString "texts" = t112 → Str.ofString "a vein without a cell" = t113 → Str.ofString "word" = t114 → Str.ofString "ASKS" = t115 → Str.ofString "not a word of a fact" = t116 → Str.ofString "numbers more or fewer than the word asks" = t117 → Str.ofString "__name__" = t118 → Str.ofString "law_dipright_k07_facts_written_and_read" = t119 → Str.ofString "number" = t120 → Str.ofString "not a whole number" = t121 → Str.ofString "shown_steps" = t122 → Str.ofString "steps" = t123 → Str.ofString "step" = t124 → Str.ofString "shown_cell" = t125 → Str.ofString "cell" = t126 → Str.ofString "x" = t127 → Str.ofString "y" = t128 → Str.ofString "fact" = t129 → Str.ofString "thing" = t130 → Str.ofString "dipright.words" = t131 → Str.ofString "FIGURES" = t132 → Str.ofString "0123456789" = t133 → Str.ofString "sign" = t134 → Str.ofString "0" = t135 → Str.ofString "dipright.errors" = t136 → Str.ofString "DiprightError" = t137 → Str.ofString "ValueError" = t138 → Str.ofString "day" = t139 → Str.ofString "below" = t140 → Str.ofString "folk" = t141 → Str.ofString "side" = t142 → Str.ofString "line" = t143 → Str.ofString "floor" = t144 → Str.ofString "coins" = t145 → Str.ofString "/claim/cut.py" = t146 → PySem.Challenge.pw_dipright_k07_facts_written_and_read = x) → Program) _ ?h
  (case f => exact fun x _ => x)
  (case h => intro h0 h1 h2 h3 h4 h5 h6 h7 h8 h9 h10 h11 h12 h13 h14 h15 h16 h17 h18 h19 h20 h21 h22 h23 h24 h25 h26 h27 h28 h29 h30 h31 h32 h33 h34 h35 h36 h37 h38 h39 h40 h41 h42 h43 h44 h45 h46 h47 h48 h49 h50 h51 h52 h53 h54 h55 h56 h57 h58 h59 h60 h61 h62 h63 h64 h65 h66 h67 h68 h69 h70 h71 h72 h73 h74 h75 h76 h77 h78 h79 h80 h81 h82 h83 h84 h85 h86 h87 h88 h89 h90 h91 h92 h93 h94 h95 h96 h97 h98 h99 h100 h101 h102 h103 h104 h105 h106 h107 h108 h109 h110 h111 h112 h113 h114 h115 h116 h117 h118 h119 h120 h121 h122 h123 h124 h125 h126 h127 h128 h129 h130 h131 h132 h133 h134 h135 h136 h137 h138 h139 h140 h141 h142 h143 h144 h145 h146; delta PySem.Challenge.pw_dipright_k07_facts_written_and_read; conv => lhs; simp only [h0, h1, h2, h3, h4, h5, h6, h7, h8, h9, h10, h11, h12, h13, h14, h15, h16, h17, h18, h19, h20, h21, h22, h23, h24, h25, h26, h27, h28, h29, h30, h31, h32, h33, h34, h35, h36, h37, h38, h39, h40, h41, h42, h43, h44, h45, h46, h47, h48, h49, h50, h51, h52, h53, h54, h55, h56, h57, h58, h59, h60, h61, h62, h63, h64, h65, h66, h67, h68, h69, h70, h71, h72, h73, h74, h75, h76, h77, h78, h79, h80, h81, h82, h83, h84, h85, h86, h87, h88, h89, h90, h91, h92, h93, h94, h95, h96, h97, h98, h99, h100, h101, h102, h103, h104, h105, h106, h107, h108, h109, h110, h111, h112, h113, h114, h115, h116, h117, h118, h119, h120, h121, h122, h123, h124, h125, h126, h127, h128, h129, h130, h131, h132, h133, h134, h135, h136, h137, h138, h139, h140, h141, h142, h143, h144, h145, h146])
noncomputable abbrev fnD (x y : Str) (s : Stmt) := FuncData.mk x y (defArgs s) (.stmts (defBody s)) (defScope s)
noncomputable abbrev kh := PyData.keyHash
noncomputable def KG (tp : Nat → Stmt) (u0 u1 u2 u3 u4 u5 u6 u7 u8 u9 u10 u11 u12 : String) (t0 t1 t2 t3 t4 t5 t6 t7 t8 t9 t10 t11 t12 t13 t14 t15 t16 t17 t18 t19 t20 t21 t22 t23 t24 t25 t26 t27 t28 t29 t30 t31 t32 t33 t34 t35 t36 t37 t38 t39 t40 t41 t42 t43 t44 t45 t46 t47 t48 t49 t50 t51 t52 t53 t54 t55 t56 t57 t58 t59 t60 t61 t62 t63 t64 t65 t66 t67 t68 t69 t70 t71 t72 t73 t74 t75 t76 t77 t78 t79 t80 t81 t82 t83 t84 t85 t86 t87 t88 t89 t90 t91 t92 t93 t94 t95 t96 t97 t98 t99 t100 t101 t102 t103 t104 t105 t106 t107 t108 t109 t110 t111 t112 t113 t114 t115 : Str) (P : Params) : PySem.W.Frag := (nat_lit 2, Obj.mk .none none (.dict #[]) #[]) ::
(nat_lit 3, Obj.mk (.type u0) none (.dict #[DictEntry.mk (kh P t0) (.str t0 165) (.str t1 342), DictEntry.mk (kh P t2) (.str t2 166) .none, DictEntry.mk (kh P t3) (.str t3 167) .none, DictEntry.mk (kh P t4) (.str t4 168) (.builtin u1), DictEntry.mk (kh P t5) (.str t5 169) .none, DictEntry.mk (kh P t6) (.str t6 170) (.ref 6), DictEntry.mk (kh P t7) (.str t7 171) (.ref 4), DictEntry.mk (kh P t8) (.str t8 173) (.str t9 172), DictEntry.mk (kh P t10) (.str t10 174) .none, DictEntry.mk (kh P t11) (.str t11 206) (.ref 24), DictEntry.mk (kh P t12) (.str t12 222) (.ref 37), DictEntry.mk (kh P t13) (.str t13 265) (.ref 40), DictEntry.mk (kh P t14) (.str t14 269) (.str t15 268), DictEntry.mk (kh P t16) (.str t16 271) (.str t17 270), DictEntry.mk (kh P t18) (.str t18 277) (.ref 53), DictEntry.mk (kh P t19) (.str t19 284) (.ref 60), DictEntry.mk (kh P t20) (.str t20 290) (.ref 65), DictEntry.mk (kh P t21) (.str t21 296) (.ref 70), DictEntry.mk (kh P t22) (.str t22 305) (.ref 77), DictEntry.mk (kh P t23) (.str t23 311) (.ref 82), DictEntry.mk (kh P t24) (.str t24 317) (.ref 87), DictEntry.mk (kh P t25) (.str t25 325) (.ref 94), DictEntry.mk (kh P t26) (.str t26 331) (.ref 99), DictEntry.mk (kh P t27) (.str t27 341) (.ref 106), DictEntry.mk (kh P t28) (.str t28 359) (.ref 113), DictEntry.mk (kh P t29) (.str t29 365) (.ref 118), DictEntry.mk (kh P t30) (.str t30 377) (.ref 125), DictEntry.mk (kh P t31) (.str t31 390) (.ref 132), DictEntry.mk (kh P t32) (.str t32 396) (.ref 137), DictEntry.mk (kh P t33) (.str t33 412) (.ref 144), DictEntry.mk (kh P t34) (.str t34 421) (.ref 151), DictEntry.mk (kh P t35) (.str t35 431) (.ref 158), DictEntry.mk (kh P t36) (.str t36 440) (.ref 165), DictEntry.mk (kh P t37) (.str t37 455) (.ref 172), DictEntry.mk (kh P t38) (.str t38 461) (.ref 177), DictEntry.mk (kh P t39) (.str t39 473) (.ref 184), DictEntry.mk (kh P t40) (.str t40 483) (.ref 191), DictEntry.mk (kh P t41) (.str t41 497) (.ref 198), DictEntry.mk (kh P t42) (.str t42 507) (.ref 205), DictEntry.mk (kh P t43) (.str t43 513) (.ref 210), DictEntry.mk (kh P t44) (.str t44 524) (.ref 217), DictEntry.mk (kh P t45) (.str t45 530) (.ref 222), DictEntry.mk (kh P t46) (.str t46 539) (.ref 229)] 43) #[]) ::
(nat_lit 15, Obj.mk (.type u2) none (.seq #[.type u3]) #[]) ::
(nat_lit 22, Obj.mk (.type u2) none (.seq #[]) #[]) ::
(nat_lit 23, Obj.mk (.type u0) none (.dict #[DictEntry.mk (kh P t47) (.str t47 196) (.str t48 187), DictEntry.mk (kh P t49) (.str t49 200) (.int 2 199), DictEntry.mk (kh P t50) (.str t50 201) (.ref 22), DictEntry.mk (kh P t51) (.str t51 203) (.ref 25), DictEntry.mk (kh P t2) (.str t2 204) .none] 3) #[]) ::
(nat_lit 24, Obj.mk (.type u4) none (.cls (ClassData.mk t11 [.type u3] [.ref 24, .type u3, .type u5, .type u6, .type u7] 23 t11 true [] [.ref 37] false none false)) #[some (.ref 15), none, some (.str t11 189), some (.str t11 197), some (.builtin u8), some (.bool true)]) ::
(nat_lit 25, Obj.mk (.type u9) none (.fields #[.str t51 202, .ref 24, .builtin u10, .none]) #[]) ::
(nat_lit 28, Obj.mk (.type u2) none (.seq #[.ref 24]) #[]) ::
(nat_lit 35, Obj.mk (.type u2) none (.seq #[]) #[]) ::
(nat_lit 36, Obj.mk (.type u0) none (.dict #[DictEntry.mk (kh P t47) (.str t47 214) (.str t48 187), DictEntry.mk (kh P t49) (.str t49 218) (.int 4 217), DictEntry.mk (kh P t50) (.str t50 219) (.ref 35), DictEntry.mk (kh P t2) (.str t2 220) .none] 2) #[]) ::
(nat_lit 37, Obj.mk (.type u4) none (.cls (ClassData.mk t12 [.ref 24] [.ref 37, .ref 24, .type u3, .type u5, .type u6, .type u7] 36 t12 true [] [] false none false)) #[some (.ref 28), none, some (.str t12 207), some (.str t12 215), some (.builtin u8), some (.bool true)]) ::
(nat_lit 40, Obj.mk (.type u0) none (.dict #[DictEntry.mk (kh P t52) (.str t52 223) (.ref 41), DictEntry.mk (kh P t53) (.str t53 227) (.ref 42), DictEntry.mk (kh P t54) (.str t54 233) (.ref 43), DictEntry.mk (kh P t55) (.str t55 235) (.ref 44), DictEntry.mk (kh P t56) (.str t56 238) (.ref 45), DictEntry.mk (kh P t57) (.str t57 243) (.ref 46), DictEntry.mk (kh P t58) (.str t58 245) (.ref 47), DictEntry.mk (kh P t59) (.str t59 253) (.ref 48)] 8) #[]) ::
(nat_lit 41, Obj.mk (.type u2) none (.seq #[.str t60 224, .str t60 225, .str t61 226]) #[]) ::
(nat_lit 42, Obj.mk (.type u2) none (.seq #[.str t62 228, .str t63 229, .str t64 230, .str t63 231, .str t64 232]) #[]) ::
(nat_lit 43, Obj.mk (.type u2) none (.seq #[.str t60 234]) #[]) ::
(nat_lit 44, Obj.mk (.type u2) none (.seq #[.str t60 236, .str t62 237]) #[]) ::
(nat_lit 45, Obj.mk (.type u2) none (.seq #[.str t60 239, .str t65 240, .str t66 241, .str t62 242]) #[]) ::
(nat_lit 46, Obj.mk (.type u2) none (.seq #[.str t60 244]) #[]) ::
(nat_lit 47, Obj.mk (.type u2) none (.seq #[.str t62 246, .str t63 247, .str t64 248, .str t63 249, .str t64 250, .str t67 251, .str t68 252]) #[]) ::
(nat_lit 48, Obj.mk (.type u2) none (.seq #[.str t62 254, .str t62 255, .str t68 256]) #[]) ::
(nat_lit 49, Obj.mk (.type u2) none (.seq #[]) #[]) ::
(nat_lit 52, Obj.mk (.type u11) none (.fields #[.str t18 272, .str t18 273, .str t9 274, .int 10 0, .int 1 0, .int 0 0, .int 0 0, .int 3 0, .ref 49, .bool true, .int 181 0, .ref 50, .none, .none, .none, .ref 51, .int 275 0, .int 10 0, .str t9 276]) #[]) ::
(nat_lit 53, Obj.mk (.type u12) none (.func (fnD t18 t18 (tp 7) 3 [] .none .none .none (.str t69 266) none (.ref 52) .none 0)) #[]) ::
(nat_lit 54, Obj.mk (.type u2) none (.seq #[]) #[]) ::
(nat_lit 56, Obj.mk (.type u2) none (.seq #[.str t70 281]) #[]) ::
(nat_lit 57, Obj.mk (.type u2) none (.seq #[]) #[]) ::
(nat_lit 59, Obj.mk (.type u11) none (.fields #[.str t19 278, .str t19 279, .str t9 280, .int 12 0, .int 1 0, .int 0 0, .int 0 0, .int 3 0, .ref 54, .bool true, .int 181 0, .ref 55, .none, .ref 56, .ref 57, .ref 58, .int 282 0, .int 12 0, .str t9 283]) #[]) ::
(nat_lit 60, Obj.mk (.type u12) none (.func (fnD t19 t19 (tp 8) 3 [] .none .none .none (.str t69 266) none (.ref 59) .none 0)) #[]) ::
(nat_lit 61, Obj.mk (.type u2) none (.seq #[]) #[]) ::
(nat_lit 64, Obj.mk (.type u11) none (.fields #[.str t20 285, .str t20 286, .str t9 287, .int 18 0, .int 1 0, .int 0 0, .int 0 0, .int 3 0, .ref 61, .bool true, .int 181 0, .ref 62, .none, .none, .none, .ref 63, .int 288 0, .int 18 0, .str t9 289]) #[]) ::
(nat_lit 65, Obj.mk (.type u12) none (.func (fnD t20 t20 (tp 9) 3 [] .none .none .none (.str t69 266) none (.ref 64) .none 0)) #[]) ::
(nat_lit 66, Obj.mk (.type u2) none (.seq #[]) #[]) ::
(nat_lit 69, Obj.mk (.type u11) none (.fields #[.str t21 291, .str t21 292, .str t9 293, .int 23 0, .int 1 0, .int 0 0, .int 0 0, .int 3 0, .ref 66, .bool true, .int 181 0, .ref 67, .none, .none, .none, .ref 68, .int 294 0, .int 23 0, .str t9 295]) #[]) ::
(nat_lit 70, Obj.mk (.type u12) none (.func (fnD t21 t21 (tp 10) 3 [] .none .none .none (.str t69 266) none (.ref 69) .none 0)) #[]) ::
(nat_lit 71, Obj.mk (.type u2) none (.seq #[]) #[]) ::
(nat_lit 73, Obj.mk (.type u2) none (.seq #[.str t71 300, .str t63 301, .str t64 302]) #[]) ::
(nat_lit 74, Obj.mk (.type u2) none (.seq #[]) #[]) ::
(nat_lit 76, Obj.mk (.type u11) none (.fields #[.str t22 297, .str t22 298, .str t9 299, .int 27 0, .int 1 0, .int 0 0, .int 0 0, .int 3 0, .ref 71, .bool true, .int 181 0, .ref 72, .none, .ref 73, .ref 74, .ref 75, .int 303 0, .int 27 0, .str t9 304]) #[]) ::
(nat_lit 77, Obj.mk (.type u12) none (.func (fnD t22 t22 (tp 11) 3 [] .none .none .none (.str t69 266) none (.ref 76) .none 0)) #[]) ::
(nat_lit 78, Obj.mk (.type u2) none (.seq #[]) #[]) ::
(nat_lit 81, Obj.mk (.type u11) none (.fields #[.str t23 306, .str t23 307, .str t9 308, .int 31 0, .int 1 0, .int 0 0, .int 0 0, .int 3 0, .ref 78, .bool true, .int 181 0, .ref 79, .none, .none, .none, .ref 80, .int 309 0, .int 31 0, .str t9 310]) #[]) ::
(nat_lit 82, Obj.mk (.type u12) none (.func (fnD t23 t23 (tp 12) 3 [] .none .none .none (.str t69 266) none (.ref 81) .none 0)) #[]) ::
(nat_lit 83, Obj.mk (.type u2) none (.seq #[]) #[]) ::
(nat_lit 86, Obj.mk (.type u11) none (.fields #[.str t24 312, .str t24 313, .str t9 314, .int 35 0, .int 1 0, .int 0 0, .int 0 0, .int 3 0, .ref 83, .bool true, .int 181 0, .ref 84, .none, .none, .none, .ref 85, .int 315 0, .int 35 0, .str t9 316]) #[]) ::
(nat_lit 87, Obj.mk (.type u12) none (.func (fnD t24 t24 (tp 13) 3 [] .none .none .none (.str t69 266) none (.ref 86) .none 0)) #[]) ::
(nat_lit 88, Obj.mk (.type u2) none (.seq #[]) #[]) ::
(nat_lit 90, Obj.mk (.type u2) none (.seq #[.str t70 321, .str t72 322]) #[]) ::
(nat_lit 91, Obj.mk (.type u2) none (.seq #[]) #[]) ::
(nat_lit 93, Obj.mk (.type u11) none (.fields #[.str t25 318, .str t25 319, .str t9 320, .int 41 0, .int 1 0, .int 0 0, .int 0 0, .int 3 0, .ref 88, .bool true, .int 181 0, .ref 89, .none, .ref 90, .ref 91, .ref 92, .int 323 0, .int 41 0, .str t9 324]) #[]) ::
(nat_lit 94, Obj.mk (.type u12) none (.func (fnD t25 t25 (tp 14) 3 [] .none .none .none (.str t69 266) none (.ref 93) .none 0)) #[]) ::
(nat_lit 95, Obj.mk (.type u2) none (.seq #[]) #[]) ::
(nat_lit 98, Obj.mk (.type u11) none (.fields #[.str t26 326, .str t26 327, .str t9 328, .int 46 0, .int 1 0, .int 0 0, .int 0 0, .int 3 0, .ref 95, .bool true, .int 181 0, .ref 96, .none, .none, .none, .ref 97, .int 329 0, .int 46 0, .str t9 330]) #[]) ::
(nat_lit 99, Obj.mk (.type u12) none (.func (fnD t26 t26 (tp 15) 3 [] .none .none .none (.str t69 266) none (.ref 98) .none 0)) #[]) ::
(nat_lit 100, Obj.mk (.type u2) none (.seq #[]) #[]) ::
(nat_lit 102, Obj.mk (.type u2) none (.seq #[.str t70 335, .str t73 336, .str t74 337, .str t72 338]) #[]) ::
(nat_lit 103, Obj.mk (.type u2) none (.seq #[]) #[]) ::
(nat_lit 105, Obj.mk (.type u11) none (.fields #[.str t27 332, .str t27 333, .str t9 334, .int 50 0, .int 1 0, .int 0 0, .int 0 0, .int 3 0, .ref 100, .bool true, .int 181 0, .ref 101, .none, .ref 102, .ref 103, .ref 104, .int 339 0, .int 50 0, .str t9 340]) #[]) ::
(nat_lit 106, Obj.mk (.type u12) none (.func (fnD t27 t27 (tp 16) 3 [] .none .none .none (.str t69 266) none (.ref 105) .none 0)) #[]) ::
(nat_lit 107, Obj.mk (.type u2) none (.seq #[]) #[]) ::
(nat_lit 109, Obj.mk (.type u2) none (.seq #[.str t75 347, .str t76 348, .str t77 349, .str t78 350, .str t79 351, .str t80 352, .str t81 353, .str t82 354, .str t83 355, .str t84 356]) #[]) ::
(nat_lit 110, Obj.mk (.type u2) none (.seq #[]) #[]) ::
(nat_lit 112, Obj.mk (.type u11) none (.fields #[.str t28 344, .str t28 345, .str t9 346, .int 62 0, .int 4 0, .int 0 0, .int 0 0, .int 3 0, .ref 107, .bool true, .int 181 0, .ref 108, .none, .ref 109, .ref 110, .ref 111, .int 357 0, .int 62 0, .str t9 358]) #[]) ::
(nat_lit 113, Obj.mk (.type u12) none (.func (fnD t28 t28 (tp 18) 3 [] .none .none .none (.str t1 342) none (.ref 112) .none 0)) #[]) ::
(nat_lit 114, Obj.mk (.type u2) none (.seq #[]) #[]) ::
(nat_lit 117, Obj.mk (.type u11) none (.fields #[.str t29 360, .str t29 361, .str t9 362, .int 77 0, .int 2 0, .int 0 0, .int 0 0, .int 3 0, .ref 114, .bool true, .int 181 0, .ref 115, .none, .none, .none, .ref 116, .int 363 0, .int 77 0, .str t9 364]) #[]) ::
(nat_lit 118, Obj.mk (.type u12) none (.func (fnD t29 t29 (tp 19) 3 [] .none .none .none (.str t1 342) none (.ref 117) .none 0)) #[]) ::
(nat_lit 119, Obj.mk (.type u2) none (.seq #[]) #[]) ::
(nat_lit 121, Obj.mk (.type u2) none (.seq #[.str t75 369, .str t76 370, .str t85 371, .str t86 372, .str t87 373, .str t88 374]) #[]) ::
(nat_lit 122, Obj.mk (.type u2) none (.seq #[]) #[]) ::
(nat_lit 124, Obj.mk (.type u11) none (.fields #[.str t30 366, .str t30 367, .str t9 368, .int 86 0, .int 2 0, .int 0 0, .int 0 0, .int 3 0, .ref 119, .bool true, .int 181 0, .ref 120, .none, .ref 121, .ref 122, .ref 123, .int 375 0, .int 86 0, .str t9 376]) #[]) ::
(nat_lit 125, Obj.mk (.type u12) none (.func (fnD t30 t30 (tp 20) 3 [] .none .none .none (.str t1 342) none (.ref 124) .none 0)) #[]) ::
(nat_lit 126, Obj.mk (.type u2) none (.seq #[]) #[]) ::
(nat_lit 128, Obj.mk (.type u2) none (.seq #[.str t75 381, .str t76 382, .str t77 383, .str t85 384, .str t86 385, .str t89 386, .str t90 387]) #[]) ::
(nat_lit 129, Obj.mk (.type u2) none (.seq #[]) #[]) ::
(nat_lit 131, Obj.mk (.type u11) none (.fields #[.str t31 378, .str t31 379, .str t9 380, .int 93 0, .int 5 0, .int 0 0, .int 0 0, .int 3 0, .ref 126, .bool true, .int 181 0, .ref 127, .none, .ref 128, .ref 129, .ref 130, .int 388 0, .int 93 0, .str t9 389]) #[]) ::
(nat_lit 132, Obj.mk (.type u12) none (.func (fnD t31 t31 (tp 21) 3 [] .none .none .none (.str t1 342) none (.ref 131) .none 0)) #[]) ::
(nat_lit 133, Obj.mk (.type u2) none (.seq #[]) #[]) ::
(nat_lit 136, Obj.mk (.type u11) none (.fields #[.str t32 391, .str t32 392, .str t9 393, .int 97 0, .int 4 0, .int 0 0, .int 0 0, .int 3 0, .ref 133, .bool true, .int 181 0, .ref 134, .none, .none, .none, .ref 135, .int 394 0, .int 97 0, .str t9 395]) #[]) ::
(nat_lit 137, Obj.mk (.type u12) none (.func (fnD t32 t32 (tp 22) 3 [] .none .none .none (.str t1 342) none (.ref 136) .none 0)) #[]) ::
(nat_lit 138, Obj.mk (.type u2) none (.seq #[]) #[]) ::
(nat_lit 140, Obj.mk (.type u2) none (.seq #[.str t75 400, .str t76 401, .str t77 402, .str t91 403, .str t92 404, .str t93 405, .str t94 406, .str t95 407, .str t96 408, .str t97 409]) #[]) ::
(nat_lit 141, Obj.mk (.type u2) none (.seq #[]) #[]) ::
(nat_lit 143, Obj.mk (.type u11) none (.fields #[.str t33 397, .str t33 398, .str t9 399, .int 99 0, .int 4 0, .int 0 0, .int 0 0, .int 3 0, .ref 138, .bool true, .int 181 0, .ref 139, .none, .ref 140, .ref 141, .ref 142, .int 410 0, .int 99 0, .str t9 411]) #[]) ::
(nat_lit 144, Obj.mk (.type u12) none (.func (fnD t33 t33 (tp 23) 3 [] .none .none .none (.str t1 342) none (.ref 143) .none 0)) #[]) ::
(nat_lit 145, Obj.mk (.type u2) none (.seq #[]) #[]) ::
(nat_lit 147, Obj.mk (.type u2) none (.seq #[.str t75 416, .str t76 417, .str t77 418]) #[]) ::
(nat_lit 148, Obj.mk (.type u2) none (.seq #[]) #[]) ::
(nat_lit 150, Obj.mk (.type u11) none (.fields #[.str t34 413, .str t34 414, .str t9 415, .int 109 0, .int 3 0, .int 0 0, .int 0 0, .int 3 0, .ref 145, .bool true, .int 181 0, .ref 146, .none, .ref 147, .ref 148, .ref 149, .int 419 0, .int 109 0, .str t9 420]) #[]) ::
(nat_lit 151, Obj.mk (.type u12) none (.func (fnD t34 t34 (tp 24) 3 [] .none .none .none (.str t1 342) none (.ref 150) .none 0)) #[]) ::
(nat_lit 152, Obj.mk (.type u2) none (.seq #[]) #[]) ::
(nat_lit 154, Obj.mk (.type u2) none (.seq #[.str t75 425, .str t76 426, .str t77 427, .str t98 428]) #[]) ::
(nat_lit 155, Obj.mk (.type u2) none (.seq #[]) #[]) ::
(nat_lit 157, Obj.mk (.type u11) none (.fields #[.str t35 422, .str t35 423, .str t9 424, .int 111 0, .int 4 0, .int 0 0, .int 0 0, .int 3 0, .ref 152, .bool true, .int 181 0, .ref 153, .none, .ref 154, .ref 155, .ref 156, .int 429 0, .int 111 0, .str t9 430]) #[]) ::
(nat_lit 158, Obj.mk (.type u12) none (.func (fnD t35 t35 (tp 25) 3 [] .none .none .none (.str t1 342) none (.ref 157) .none 0)) #[]) ::
(nat_lit 159, Obj.mk (.type u2) none (.seq #[]) #[]) ::
(nat_lit 161, Obj.mk (.type u2) none (.seq #[.str t75 435, .str t76 436, .str t91 437]) #[]) ::
(nat_lit 162, Obj.mk (.type u2) none (.seq #[]) #[]) ::
(nat_lit 164, Obj.mk (.type u11) none (.fields #[.str t36 432, .str t36 433, .str t9 434, .int 115 0, .int 3 0, .int 0 0, .int 0 0, .int 3 0, .ref 159, .bool true, .int 181 0, .ref 160, .none, .ref 161, .ref 162, .ref 163, .int 438 0, .int 115 0, .str t9 439]) #[]) ::
(nat_lit 165, Obj.mk (.type u12) none (.func (fnD t36 t36 (tp 26) 3 [] .none .none .none (.str t1 342) none (.ref 164) .none 0)) #[]) ::
(nat_lit 166, Obj.mk (.type u2) none (.seq #[]) #[]) ::
(nat_lit 168, Obj.mk (.type u2) none (.seq #[.str t75 444, .str t76 445, .str t99 446, .str t91 447, .str t98 448, .str t100 449, .str t101 450, .str t102 451, .str t103 452]) #[]) ::
(nat_lit 169, Obj.mk (.type u2) none (.seq #[]) #[]) ::
(nat_lit 171, Obj.mk (.type u11) none (.fields #[.str t37 441, .str t37 442, .str t9 443, .int 117 0, .int 5 0, .int 0 0, .int 0 0, .int 3 0, .ref 166, .bool true, .int 181 0, .ref 167, .none, .ref 168, .ref 169, .ref 170, .int 453 0, .int 117 0, .str t9 454]) #[]) ::
(nat_lit 172, Obj.mk (.type u12) none (.func (fnD t37 t37 (tp 27) 3 [] .none .none .none (.str t1 342) none (.ref 171) .none 0)) #[]) ::
(nat_lit 173, Obj.mk (.type u2) none (.seq #[]) #[]) ::
(nat_lit 176, Obj.mk (.type u11) none (.fields #[.str t38 456, .str t38 457, .str t9 458, .int 125 0, .int 4 0, .int 0 0, .int 0 0, .int 3 0, .ref 173, .bool true, .int 181 0, .ref 174, .none, .none, .none, .ref 175, .int 459 0, .int 125 0, .str t9 460]) #[]) ::
(nat_lit 177, Obj.mk (.type u12) none (.func (fnD t38 t38 (tp 28) 3 [] .none .none .none (.str t1 342) none (.ref 176) .none 0)) #[]) ::
(nat_lit 178, Obj.mk (.type u2) none (.seq #[]) #[]) ::
(nat_lit 180, Obj.mk (.type u2) none (.seq #[.str t75 465, .str t76 466, .str t91 467, .str t104 468, .str t105 469, .str t106 470]) #[]) ::
(nat_lit 181, Obj.mk (.type u2) none (.seq #[]) #[]) ::
(nat_lit 183, Obj.mk (.type u11) none (.fields #[.str t39 462, .str t39 463, .str t9 464, .int 137 0, .int 3 0, .int 0 0, .int 0 0, .int 3 0, .ref 178, .bool true, .int 181 0, .ref 179, .none, .ref 180, .ref 181, .ref 182, .int 471 0, .int 137 0, .str t9 472]) #[]) ::
(nat_lit 184, Obj.mk (.type u12) none (.func (fnD t39 t39 (tp 29) 3 [] .none .none .none (.str t1 342) none (.ref 183) .none 0)) #[]) ::
(nat_lit 185, Obj.mk (.type u2) none (.seq #[]) #[]) ::
(nat_lit 187, Obj.mk (.type u2) none (.seq #[.str t75 477, .str t76 478, .str t107 479, .str t108 480]) #[]) ::
(nat_lit 188, Obj.mk (.type u2) none (.seq #[]) #[]) ::
(nat_lit 190, Obj.mk (.type u11) none (.fields #[.str t40 474, .str t40 475, .str t9 476, .int 142 0, .int 2 0, .int 0 0, .int 0 0, .int 3 0, .ref 185, .bool true, .int 181 0, .ref 186, .none, .ref 187, .ref 188, .ref 189, .int 481 0, .int 142 0, .str t9 482]) #[]) ::
(nat_lit 191, Obj.mk (.type u12) none (.func (fnD t40 t40 (tp 30) 3 [] .none .none .none (.str t1 342) none (.ref 190) .none 0)) #[]) ::
(nat_lit 192, Obj.mk (.type u2) none (.seq #[]) #[]) ::
(nat_lit 194, Obj.mk (.type u2) none (.seq #[.str t91 487, .str t109 488, .str t110 489, .str t111 490, .str t112 491, .str t89 492, .str t90 493, .str t113 494]) #[]) ::
(nat_lit 195, Obj.mk (.type u2) none (.seq #[]) #[]) ::
(nat_lit 197, Obj.mk (.type u11) none (.fields #[.str t41 484, .str t41 485, .str t9 486, .int 148 0, .int 2 0, .int 0 0, .int 0 0, .int 3 0, .ref 192, .bool true, .int 181 0, .ref 193, .none, .ref 194, .ref 195, .ref 196, .int 495 0, .int 148 0, .str t9 496]) #[]) ::
(nat_lit 198, Obj.mk (.type u12) none (.func (fnD t41 t41 (tp 31) 3 [] .none .none .none (.str t1 342) none (.ref 197) .none 0)) #[]) ::
(nat_lit 199, Obj.mk (.type u2) none (.seq #[]) #[]) ::
(nat_lit 201, Obj.mk (.type u2) none (.seq #[.str t75 501, .str t76 502, .str t91 503, .str t99 504]) #[]) ::
(nat_lit 202, Obj.mk (.type u2) none (.seq #[]) #[]) ::
(nat_lit 204, Obj.mk (.type u11) none (.fields #[.str t42 498, .str t42 499, .str t9 500, .int 161 0, .int 3 0, .int 0 0, .int 0 0, .int 3 0, .ref 199, .bool true, .int 181 0, .ref 200, .none, .ref 201, .ref 202, .ref 203, .int 505 0, .int 161 0, .str t9 506]) #[]) ::
(nat_lit 205, Obj.mk (.type u12) none (.func (fnD t42 t42 (tp 32) 3 [] .none .none .none (.str t1 342) none (.ref 204) .none 0)) #[]) ::
(nat_lit 206, Obj.mk (.type u2) none (.seq #[]) #[]) ::
(nat_lit 209, Obj.mk (.type u11) none (.fields #[.str t43 508, .str t43 509, .str t9 510, .int 168 0, .int 1 0, .int 0 0, .int 0 0, .int 3 0, .ref 206, .bool true, .int 181 0, .ref 207, .none, .none, .none, .ref 208, .int 511 0, .int 168 0, .str t9 512]) #[]) ::
(nat_lit 210, Obj.mk (.type u12) none (.func (fnD t43 t43 (tp 33) 3 [] .none .none .none (.str t1 342) none (.ref 209) .none 0)) #[]) ::
(nat_lit 211, Obj.mk (.type u2) none (.seq #[]) #[]) ::
(nat_lit 213, Obj.mk (.type u2) none (.seq #[.str t75 517, .str t76 518, .str t77 519, .str t91 520, .str t78 521]) #[]) ::
(nat_lit 214, Obj.mk (.type u2) none (.seq #[]) #[]) ::
(nat_lit 216, Obj.mk (.type u11) none (.fields #[.str t44 514, .str t44 515, .str t9 516, .int 175 0, .int 3 0, .int 0 0, .int 0 0, .int 3 0, .ref 211, .bool true, .int 181 0, .ref 212, .none, .ref 213, .ref 214, .ref 215, .int 522 0, .int 175 0, .str t9 523]) #[]) ::
(nat_lit 217, Obj.mk (.type u12) none (.func (fnD t44 t44 (tp 34) 3 [] .none .none .none (.str t1 342) none (.ref 216) .none 0)) #[]) ::
(nat_lit 218, Obj.mk (.type u2) none (.seq #[]) #[]) ::
(nat_lit 221, Obj.mk (.type u11) none (.fields #[.str t45 525, .str t45 526, .str t9 527, .int 181 0, .int 2 0, .int 0 0, .int 0 0, .int 3 0, .ref 218, .bool true, .int 181 0, .ref 219, .none, .none, .none, .ref 220, .int 528 0, .int 181 0, .str t9 529]) #[]) ::
(nat_lit 222, Obj.mk (.type u12) none (.func (fnD t45 t45 (tp 35) 3 [] .none .none .none (.str t1 342) none (.ref 221) .none 0)) #[]) ::
(nat_lit 223, Obj.mk (.type u2) none (.seq #[]) #[]) ::
(nat_lit 225, Obj.mk (.type u2) none (.seq #[.str t75 534, .str t114 535, .str t115 536]) #[]) ::
(nat_lit 226, Obj.mk (.type u2) none (.seq #[]) #[]) ::
(nat_lit 228, Obj.mk (.type u11) none (.fields #[.str t46 531, .str t46 532, .str t9 533, .int 192 0, .int 1 0, .int 0 0, .int 0 0, .int 3 0, .ref 223, .bool true, .int 181 0, .ref 224, .none, .ref 225, .ref 226, .ref 227, .int 537 0, .int 192 0, .str t9 538]) #[]) ::
(nat_lit 229, Obj.mk (.type u12) none (.func (fnD t46 t46 (tp 36) 3 [] .none .none .none (.str t1 342) none (.ref 228) .none 0)) #[]) :: []
noncomputable def KF : Params → PySem.W.Frag := KG top b0 b1 b2 b3 b4 b5 b6 b7 b8 b9 b10 b11 b12 a118 a119 a147 a148 a149 a150 a151 a152 a153 a146 a154 a137 a103 a115 a132 a133 a101 a22 a102 a120 a108 a122 a125 a48 a99 a106 a111 a50 a5 a49 a46 a65 a77 a79 a56 a54 a63 a51 a8 a6 a7 a39 a0 a11 a26 a29 a45 a155 a136 a156 a157 a158 a14 a10 a31 a32 a33 a34 a35 a36 a139 a140 a141 a127 a128 a142 a143 a144 a145 a131 a100 a126 a107 a112 a114 a1 a2 a27 a28 a23 a84 a85 a20 a86 a87 a95 a96 a78 a97 a73 a74 a3 a38 a80 a81 a82 a41 a83 a52 a4 a53 a55 a57 a58 a66 a67 a68 a69 a70 a37 a62 a71 a72 a75 a12 a47
noncomputable def KH (P : Params) : PySem.W.Frag := by refine' (?f : (x : PySem.W.Frag) → KF P = x → PySem.W.Frag) _ ?h; (case f => exact fun x _ => x); (case h => conv => lhs; whnf)
end K07
namespace PySem.W.Fast
open PySem K07
noncomputable def tw15180665816255707872 : Program := G tw14699409603136475643 tw17425177412509099791 tw13005794686866977643 tw15933336169797312441 tw2311110608367394994 tw1347406620572886471 tw13815295123277003588 tw14184844910937780353 tw7364486998315859123 tw5968841541512322957 tw16820728825993189195 tw11167224172092742839 tw10624614609490103712 tw11977865572315659890 tw4459842775388769521 tw2827001081081237228 tw5354248229190554302 tw3575052001178570842 tw12633306373960329924 tw2666799755014718928 tw15700460869995989927 tw14882827878286546484 tw13454325154997491863 tw7097803292442213083 tw10516500771659508014 tw12784392319245291409 tw13604867066347632539 tw17214670563668532003 tw6316436087560135392 tw16836365235458548855 tw3934800317234012105 tw1682155634684328054 tw5420136080719772049 tw2344155060356449384 tw14715181096411496197 tw15898519273214066835 tw299579348530053764 tw4425111452617217808 tw7711146935887312644 tw13269597382873509799 tw4271143479300358218 tw8265990891573739101 tw946937679231669696 tw15636233584920024576 tw5806763814754364497 tw1846122934968327043 tw14979267114844622226 tw6169008634407963036 tw13630424004011825402 tw2137130363474296877 tw16200144812381306485 tw3205695402418284939 tw17264355107034473558 tw11326306551487348000 tw5277620424911126921 tw16384692729915355848 tw7182493612883230969 tw17686375964240365288 tw5000050034738200383 tw6640957997568346474 tw12694805888827724746 tw3792588873278959772 tw4322072369552020417 tw8331477066609698147 tw12354028697735681138 tw10085862920189475052 tw7499908911246588786 tw10309174407290443551 tw9107667232739281178 tw362603509926308980 tw17696547429880943348 tw10472326259084985161 tw10857550758970803070 tw79600607800748235 tw6095076660760269067 tw13239136924006747497 tw14428086115086003817 tw10318552571123508519 tw17865033595545049913 tw6553370159184771923 tw10905510769800412888 tw18307420378560417455 tw9548214563119813189 tw12017042098732863770 tw12155381476074900269 tw1209619852068794892 tw450703496414073251 tw9803189002206857797 tw6348867507366025707 tw5039593455276606523 tw3032543400733326608 tw14154927569557705691 tw8344123819451132910 tw4705615954655077243 tw5532383014461555792 tw18232651693090069795 tw6849152886687920028 tw18138790816441600734 tw6306586561152685808 tw15910594573650899396 tw8451932878163760588 tw6644026359963750487 tw893947581731093888 tw11527977360913694495 tw10480431817126917780 tw11519714134562802122 tw14144121648817290506 tw886583510754539519 tw18120901553418464735 tw11792351816109958508 tw7083379258287174488 tw10124722001205988444 tw10944315514339866087 tw7631388867106250357 tw3342788929872441185 tw16288753919657159783 tw2207317034897559175 tw5280122125042189510 tw15266440943368656231 tw8329003631715680625 tw17526946589694807938 tw8580400495522015732 tw1825330042055624610 tw4197357022157243055 tw17677363915701004066 tw2085802261167484316 tw16152936236775545871 tw7464280723456702980 tw17436971128275788613 tw14702088969160583171 tw9952362426901434788 tw1641326122651048690 tw6713923699102558075 tw18307055545357119907 tw17473782830839456717 tw3275047641800295383 tw428915638543125825 tw8597740508151239652 tw7835630190484935232 tw14026608276871066365 tw11031794566647706694 tw10274405469255419398 tw7041380180185731772 tw17867858048815494954 tw4044133601720985325 tw1452785021680224848 tw11997397422823193731
theorem te15180665816255707872 : PySem.Challenge.pw_dipright_k07_facts_written_and_read = tw15180665816255707872 := Eq.trans (b := G a0 a1 a2 a3 a4 a5 a6 a7 a8 a9 a10 a11 a12 a13 a14 a15 a16 a17 a18 a19 a20 a21 a22 a23 a24 a25 a26 a27 a28 a29 a30 a31 a32 a33 a34 a35 a36 a37 a38 a39 a40 a41 a42 a43 a44 a45 a46 a47 a48 a49 a50 a51 a52 a53 a54 a55 a56 a57 a58 a59 a60 a61 a62 a63 a64 a65 a66 a67 a68 a69 a70 a71 a72 a73 a74 a75 a76 a77 a78 a79 a80 a81 a82 a83 a84 a85 a86 a87 a88 a89 a90 a91 a92 a93 a94 a95 a96 a97 a98 a99 a100 a101 a102 a103 a104 a105 a106 a107 a108 a109 a110 a111 a112 a113 a114 a115 a116 a117 a118 a119 a120 a121 a122 a123 a124 a125 a126 a127 a128 a129 a130 a131 a132 a133 a134 a135 a136 a137 a138 a139 a140 a141 a142 a143 a144 a145 a146) rfl (congr (congr (congr (congr (congr (congr (congr (congr (congr (congr (congr (congr (congr (congr (congr (congr (congr (congr (congr (congr (congr (congr (congr (congr (congr (congr (congr (congr (congr (congr (congr (congr (congr (congr (congr (congr (congr (congr (congr (congr (congr (congr (congr (congr (congr (congr (congr (congr (congr (congr (congr (congr (congr (congr (congr (congr (congr (congr (congr (congr (congr (congr (congr (congr (congr (congr (congr (congr (congr (congr (congr (congr (congr (congr (congr (congr (congr (congr (congr (congr (congr (congr (congr (congr (congr (congr (congr (congr (congr (congr (congr (congr (congr (congr (congr (congr (congr (congr (congr (congr (congr (congr (congr (congr (congr (congr (congr (congr (congr (congr (congr (congr (congr (congr (congr (congr (congr (congr (congr (congr (congr (congr (congr (congr (congr (congr (congr (congr (congr (congr (congr (congr (congr (congr (congr (congr (congr (congr (congr (congr (congr (congr (congr (congr (congr (congr (congrArg G te14699409603136475643) te17425177412509099791) te13005794686866977643) te15933336169797312441) te2311110608367394994) te1347406620572886471) te13815295123277003588) te14184844910937780353) te7364486998315859123) te5968841541512322957) te16820728825993189195) te11167224172092742839) te10624614609490103712) te11977865572315659890) te4459842775388769521) te2827001081081237228) te5354248229190554302) te3575052001178570842) te12633306373960329924) te2666799755014718928) te15700460869995989927) te14882827878286546484) te13454325154997491863) te7097803292442213083) te10516500771659508014) te12784392319245291409) te13604867066347632539) te17214670563668532003) te6316436087560135392) te16836365235458548855) te3934800317234012105) te1682155634684328054) te5420136080719772049) te2344155060356449384) te14715181096411496197) te15898519273214066835) te299579348530053764) te4425111452617217808) te7711146935887312644) te13269597382873509799) te4271143479300358218) te8265990891573739101) te946937679231669696) te15636233584920024576) te5806763814754364497) te1846122934968327043) te14979267114844622226) te6169008634407963036) te13630424004011825402) te2137130363474296877) te16200144812381306485) te3205695402418284939) te17264355107034473558) te11326306551487348000) te5277620424911126921) te16384692729915355848) te7182493612883230969) te17686375964240365288) te5000050034738200383) te6640957997568346474) te12694805888827724746) te3792588873278959772) te4322072369552020417) te8331477066609698147) te12354028697735681138) te10085862920189475052) te7499908911246588786) te10309174407290443551) te9107667232739281178) te362603509926308980) te17696547429880943348) te10472326259084985161) te10857550758970803070) te79600607800748235) te6095076660760269067) te13239136924006747497) te14428086115086003817) te10318552571123508519) te17865033595545049913) te6553370159184771923) te10905510769800412888) te18307420378560417455) te9548214563119813189) te12017042098732863770) te12155381476074900269) te1209619852068794892) te450703496414073251) te9803189002206857797) te6348867507366025707) te5039593455276606523) te3032543400733326608) te14154927569557705691) te8344123819451132910) te4705615954655077243) te5532383014461555792) te18232651693090069795) te6849152886687920028) te18138790816441600734) te6306586561152685808) te15910594573650899396) te8451932878163760588) te6644026359963750487) te893947581731093888) te11527977360913694495) te10480431817126917780) te11519714134562802122) te14144121648817290506) te886583510754539519) te18120901553418464735) te11792351816109958508) te7083379258287174488) te10124722001205988444) te10944315514339866087) te7631388867106250357) te3342788929872441185) te16288753919657159783) te2207317034897559175) te5280122125042189510) te15266440943368656231) te8329003631715680625) te17526946589694807938) te8580400495522015732) te1825330042055624610) te4197357022157243055) te17677363915701004066) te2085802261167484316) te16152936236775545871) te7464280723456702980) te17436971128275788613) te14702088969160583171) te9952362426901434788) te1641326122651048690) te6713923699102558075) te18307055545357119907) te17473782830839456717) te3275047641800295383) te428915638543125825) te8597740508151239652) te7835630190484935232) te14026608276871066365) te11031794566647706694) te10274405469255419398) te7041380180185731772) te17867858048815494954) te4044133601720985325) te1452785021680224848) te11997397422823193731)
noncomputable def tw17765298303605974410 (i : Nat) : Stmt := tw15180665816255707872.main.body.getD i (.Pass ⟨0, 0, 0, 0⟩)
theorem te17765298303605974410 : top = tw17765298303605974410 := funext fun i => congrArg (fun p : Program => p.main.body.getD i (.Pass ⟨0, 0, 0, 0⟩)) te15180665816255707872
noncomputable def tw4749952126914590077 : Params → Frag := KG tw17765298303605974410 tw4587549239320023217 tw12633436538218133810 tw9904000713905113625 tw7929978046779929173 tw15616028693502188371 tw4722706958769275778 tw2739546171054905767 tw4838337270518971822 tw13828716478374168914 tw5941041973720888887 tw24938288725088719 tw2700545729725404499 tw1472079101925550682 tw15266440943368656231 tw8329003631715680625 tw17205872834562528347 tw9445875590199680577 tw15979438339350248462 tw4102463817555214380 tw4647443869336796790 tw11861472613331487936 tw3526492774690830144 tw11997397422823193731 tw6194812798017829935 tw8597740508151239652 tw11527977360913694495 tw16288753919657159783 tw6713923699102558075 tw18307055545357119907 tw6644026359963750487 tw13454325154997491863 tw893947581731093888 tw17526946589694807938 tw18120901553418464735 tw1825330042055624610 tw2085802261167484316 tw13630424004011825402 tw15910594573650899396 tw14144121648817290506 tw10124722001205988444 tw16200144812381306485 tw1347406620572886471 tw2137130363474296877 tw14979267114844622226 tw10085862920189475052 tw10318552571123508519 tw6553370159184771923 tw7182493612883230969 tw5277620424911126921 tw8331477066609698147 tw3205695402418284939 tw7364486998315859123 tw13815295123277003588 tw14184844910937780353 tw13269597382873509799 tw14699409603136475643 tw11167224172092742839 tw13604867066347632539 tw16836365235458548855 tw1846122934968327043 tw18235452414594340353 tw428915638543125825 tw6338838558765688062 tw9391764630854153576 tw12806793707290244670 tw4459842775388769521 tw16820728825993189195 tw1682155634684328054 tw5420136080719772049 tw2344155060356449384 tw14715181096411496197 tw15898519273214066835 tw299579348530053764 tw14026608276871066365 tw11031794566647706694 tw10274405469255419398 tw7464280723456702980 tw17436971128275788613 tw7041380180185731772 tw17867858048815494954 tw4044133601720985325 tw1452785021680224848 tw1641326122651048690 tw8451932878163760588 tw16152936236775545871 tw886583510754539519 tw10944315514339866087 tw3342788929872441185 tw17425177412509099791 tw13005794686866977643 tw17214670563668532003 tw6316436087560135392 tw7097803292442213083 tw12155381476074900269 tw1209619852068794892 tw15700460869995989927 tw450703496414073251 tw9803189002206857797 tw18232651693090069795 tw6849152886687920028 tw17865033595545049913 tw18138790816441600734 tw79600607800748235 tw6095076660760269067 tw15933336169797312441 tw7711146935887312644 tw10905510769800412888 tw18307420378560417455 tw9548214563119813189 tw8265990891573739101 tw12017042098732863770 tw17264355107034473558 tw2311110608367394994 tw11326306551487348000 tw16384692729915355848 tw17686375964240365288 tw5000050034738200383 tw7499908911246588786 tw10309174407290443551 tw9107667232739281178 tw362603509926308980 tw17696547429880943348 tw4425111452617217808 tw4322072369552020417 tw10472326259084985161 tw10857550758970803070 tw13239136924006747497 tw10624614609490103712 tw6169008634407963036
theorem te4749952126914590077 : KF = tw4749952126914590077 := congr (congr (congr (congr (congr (congr (congr (congr (congr (congr (congr (congr (congr (congr (congr (congr (congr (congr (congr (congr (congr (congr (congr (congr (congr (congr (congr (congr (congr (congr (congr (congr (congr (congr (congr (congr (congr (congr (congr (congr (congr (congr (congr (congr (congr (congr (congr (congr (congr (congr (congr (congr (congr (congr (congr (congr (congr (congr (congr (congr (congr (congr (congr (congr (congr (congr (congr (congr (congr (congr (congr (congr (congr (congr (congr (congr (congr (congr (congr (congr (congr (congr (congr (congr (congr (congr (congr (congr (congr (congr (congr (congr (congr (congr (congr (congr (congr (congr (congr (congr (congr (congr (congr (congr (congr (congr (congr (congr (congr (congr (congr (congr (congr (congr (congr (congr (congr (congr (congr (congr (congr (congr (congr (congr (congr (congr (congr (congr (congr (congrArg KG te17765298303605974410) te4587549239320023217) te12633436538218133810) te9904000713905113625) te7929978046779929173) te15616028693502188371) te4722706958769275778) te2739546171054905767) te4838337270518971822) te13828716478374168914) te5941041973720888887) te24938288725088719) te2700545729725404499) te1472079101925550682) te15266440943368656231) te8329003631715680625) te17205872834562528347) te9445875590199680577) te15979438339350248462) te4102463817555214380) te4647443869336796790) te11861472613331487936) te3526492774690830144) te11997397422823193731) te6194812798017829935) te8597740508151239652) te11527977360913694495) te16288753919657159783) te6713923699102558075) te18307055545357119907) te6644026359963750487) te13454325154997491863) te893947581731093888) te17526946589694807938) te18120901553418464735) te1825330042055624610) te2085802261167484316) te13630424004011825402) te15910594573650899396) te14144121648817290506) te10124722001205988444) te16200144812381306485) te1347406620572886471) te2137130363474296877) te14979267114844622226) te10085862920189475052) te10318552571123508519) te6553370159184771923) te7182493612883230969) te5277620424911126921) te8331477066609698147) te3205695402418284939) te7364486998315859123) te13815295123277003588) te14184844910937780353) te13269597382873509799) te14699409603136475643) te11167224172092742839) te13604867066347632539) te16836365235458548855) te1846122934968327043) te18235452414594340353) te428915638543125825) te6338838558765688062) te9391764630854153576) te12806793707290244670) te4459842775388769521) te16820728825993189195) te1682155634684328054) te5420136080719772049) te2344155060356449384) te14715181096411496197) te15898519273214066835) te299579348530053764) te14026608276871066365) te11031794566647706694) te10274405469255419398) te7464280723456702980) te17436971128275788613) te7041380180185731772) te17867858048815494954) te4044133601720985325) te1452785021680224848) te1641326122651048690) te8451932878163760588) te16152936236775545871) te886583510754539519) te10944315514339866087) te3342788929872441185) te17425177412509099791) te13005794686866977643) te17214670563668532003) te6316436087560135392) te7097803292442213083) te12155381476074900269) te1209619852068794892) te15700460869995989927) te450703496414073251) te9803189002206857797) te18232651693090069795) te6849152886687920028) te17865033595545049913) te18138790816441600734) te79600607800748235) te6095076660760269067) te15933336169797312441) te7711146935887312644) te10905510769800412888) te18307420378560417455) te9548214563119813189) te8265990891573739101) te12017042098732863770) te17264355107034473558) te2311110608367394994) te11326306551487348000) te16384692729915355848) te17686375964240365288) te5000050034738200383) te7499908911246588786) te10309174407290443551) te9107667232739281178) te362603509926308980) te17696547429880943348) te4425111452617217808) te4322072369552020417) te10472326259084985161) te10857550758970803070) te13239136924006747497) te10624614609490103712) te6169008634407963036
end PySem.W.Fast
open PySem PySem.W PyProof.Rows
set_option maxRecDepth 100000 in
set_option maxHeartbeats 0 in
theorem PySem.Challenge.cw_dipright_k07_facts_written_and_read_holds : PySem.Challenge.rw_dipright_k07_facts_written_and_read.Holds := by
  w_on; o_law; o_head (kHook K07.KF [2, 3, 15, 22, 23, 24, 25, 28, 35, 36, 37, 40, 41, 42, 43, 44, 45, 46, 47, 48, 49, 52, 53, 54, 56, 57, 59, 60, 61, 64, 65, 66, 69, 70, 71, 73, 74, 76, 77, 78, 81, 82, 83, 86, 87, 88, 90, 91, 93, 94, 95, 98, 99, 100, 102, 103, 105, 106, 107, 109, 110, 112, 113, 114, 117, 118, 119, 121, 122, 124, 125, 126, 128, 129, 131, 132, 133, 136, 137, 138, 140, 141, 143, 144, 145, 147, 148, 150, 151, 152, 154, 155, 157, 158, 159, 161, 162, 164, 165, 166, 168, 169, 171, 172, 173, 176, 177, 178, 180, 181, 183, 184, 185, 187, 188, 190, 191, 192, 194, 195, 197, 198, 199, 201, 202, 204, 205, 206, 209, 210, 211, 213, 214, 216, 217, 218, 221, 222, 223, 225, 226, 228, 229] (fun _ => by kernel_rfl)); (case hw=>w_witness2)
  refine MS.walk_law (K := K07.KH) (l:=PySem.Challenge.rw_dipright_k07_facts_written_and_read) (k:=20) (x:="_law_script") rfl rfl ⟨rfl,by decide,by decide⟩ (fun w h Y=>PySem.W.kIn_of Y) ?F
  case F =>
    intro w mg fa h KX G hmg
    k_fill
    refine' K07.all_mk KX G hmg ?a0 ?l0 ?c0 ?k0 ?a1 ?l1 ?c1 ?k1 ?a2 ?l2 ?c2 ?k2 ?a3 ?l3 ?c3 ?k3 ?a4 ?l4 ?c4 ?k4 ?a5 ?l5 ?c5 ?k5 ?a6 ?l6 ?c6 ?k6 ?a7 ?l7 ?c7 ?k7 ?a8 ?l8 ?c8 ?k8 ?a9 ?l9 ?c9 ?k9 ?a10 ?l10 ?c10 ?k10 ?a11 ?l11 ?c11 ?k11 ?a12 ?l12 ?c12 ?k12 ?a13 ?l13 ?c13 ?k13 ?a14 ?l14 ?c14 ?k14 ?a15 ?l15 ?c15 ?k15 ?a16 ?l16 ?c16 ?k16 ?a17 ?l17 ?c17 ?k17 ?a18 ?l18 ?c18 ?k18 ?a19 ?l19 ?c19 ?k19 ?a20 ?l20 ?c20 ?k20 ?a21 ?l21 ?c21 ?k21 ?a22 ?l22 ?c22 ?k22 ?a23 ?l23 ?c23 ?k23 ?a24 ?l24 ?c24 ?k24 ?a25 ?l25 ?c25 ?k25 ?a26 ?l26 ?c26 ?k26 ?a27 ?l27 ?c27 ?k27 ?a28 ?l28 ?c28 ?k28 ?gl0 ?gl1 ?gl2 ?gO0 ?go0 ?go1 ?go2 ?go3 ?go4 ?go5 ?go6 ?go7 ?gm0 ?z0 ?z1 ?z2 ?z3 ?z4 ?z5 ?z6 ?z7 ?z8 ?z9 ?z10 ?z11 ?z12 ?z13 ?z14 ?z15 ?z16 ?z17 ?z18
    (case a0=>k_is)
    (case l0=>k_is)
    (case c0=>k_is)
    (case k0=>k_is)
    (case a1=>k_is)
    (case l1=>k_is)
    (case c1=>k_is)
    (case k1=>k_is)
    (case a2=>k_is)
    (case l2=>k_is)
    (case c2=>k_is)
    (case k2=>k_is)
    (case a3=>k_is)
    (case l3=>k_is)
    (case c3=>k_is)
    (case k3=>k_is)
    (case a4=>k_is)
    (case l4=>k_is)
    (case c4=>k_is)
    (case k4=>k_is)
    (case a5=>k_is)
    (case l5=>k_is)
    (case c5=>k_is)
    (case k5=>k_is)
    (case a6=>k_is)
    (case l6=>k_is)
    (case c6=>k_is)
    (case k6=>k_is)
    (case a7=>k_is)
    (case l7=>k_is)
    (case c7=>k_is)
    (case k7=>k_is)
    (case a8=>k_is)
    (case l8=>k_is)
    (case c8=>k_is)
    (case k8=>k_is)
    (case a9=>k_is)
    (case l9=>k_is)
    (case c9=>k_is)
    (case k9=>k_is)
    (case a10=>k_is)
    (case l10=>k_is)
    (case c10=>k_is)
    (case k10=>k_is)
    (case a11=>k_is)
    (case l11=>k_is)
    (case c11=>k_is)
    (case k11=>k_is)
    (case a12=>k_is)
    (case l12=>k_is)
    (case c12=>k_is)
    (case k12=>k_is)
    (case a13=>k_is)
    (case l13=>k_is)
    (case c13=>k_is)
    (case k13=>k_is)
    (case a14=>k_is)
    (case l14=>k_is)
    (case c14=>k_is)
    (case k14=>k_is)
    (case a15=>k_is)
    (case l15=>k_is)
    (case c15=>k_is)
    (case k15=>k_is)
    (case a16=>k_is)
    (case l16=>k_is)
    (case c16=>k_is)
    (case k16=>k_is)
    (case a17=>k_is)
    (case l17=>k_is)
    (case c17=>k_is)
    (case k17=>k_is)
    (case a18=>k_is)
    (case l18=>k_is)
    (case c18=>k_is)
    (case k18=>k_is)
    (case a19=>k_is)
    (case l19=>k_is)
    (case c19=>k_is)
    (case k19=>k_is)
    (case a20=>k_is)
    (case l20=>k_is)
    (case c20=>k_is)
    (case k20=>k_is)
    (case a21=>k_is)
    (case l21=>k_is)
    (case c21=>k_is)
    (case k21=>k_is)
    (case a22=>k_is)
    (case l22=>k_is)
    (case c22=>k_is)
    (case k22=>k_is)
    (case a23=>k_is)
    (case l23=>k_is)
    (case c23=>k_is)
    (case k23=>k_is)
    (case a24=>k_is)
    (case l24=>k_is)
    (case c24=>k_is)
    (case k24=>k_is)
    (case a25=>k_is)
    (case l25=>k_is)
    (case c25=>k_is)
    (case k25=>k_is)
    (case a26=>k_is)
    (case l26=>k_is)
    (case c26=>k_is)
    (case k26=>k_is)
    (case a27=>k_is)
    (case l27=>k_is)
    (case c27=>k_is)
    (case k27=>k_is)
    (case a28=>k_is)
    (case l28=>k_is)
    (case c28=>k_is)
    (case k28=>k_is)
    (case gl0=>k_is)
    (case gl1=>k_is)
    (case gl2=>k_is)
    (case gO0=>k_is)
    (case go0=>k_is)
    (case go1=>k_is)
    (case go2=>k_is)
    (case go3=>k_is)
    (case go4=>k_is)
    (case go5=>k_is)
    (case go6=>k_is)
    (case go7=>k_is)
    (case z0=>k_is)
    (case z1=>k_is)
    (case z2=>k_is)
    (case z3=>k_is)
    (case z4=>k_is)
    (case z5=>k_is)
    (case z6=>k_is)
    (case z7=>k_is)
    (case z8=>k_is)
    (case z9=>k_is)
    (case z10=>k_is)
    (case z11=>k_is)
    (case z12=>k_is)
    (case z13=>k_is)
    (case z14=>k_is)
    (case z15=>k_is)
    (case z16=>k_is)
    (case z17=>k_is)
    (case z18=>k_is)
    (case gm0=>rfl)
