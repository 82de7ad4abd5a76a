import PyProof.Rows.All
import Wide.All
import OpenK.AllK
import Wide.FinOn
import Lean
import PyProof.EqAt
import PyProof.EqKinds
import PyProof.TupleCall
import PyProof.NeKinds
import PyProof.ZipIter
import PyProof.StrLoop
import PyProof.StrWalks
import PyProof.StrCalls
import PyProof.StrCalls2
import PyProof.StrLawsIn
import PyProof.SliceStr2
import PyProof.StrBlock
import PyProof.Rows.StrFirst
import KE.KIntText
import PyProof.StrLawsChain
import PyProof.StrLawsTight
import PyProof.CallStr
import PyProof.Rows.FStr
import PySem.Challenge.RW_dipright_k33_papers_written_and_read
set_option Elab.async false
set_option linter.all false
set_option maxRecDepth 100000
set_option maxHeartbeats 4000000
section
set_option Elab.async false
set_option linter.all false
set_option maxRecDepth 100000
namespace L2
open PySem PySem.Spec PyProof.Rows
abbrev Key:=Sum Int Str
def keyIs : Key→Value→Bool
  | .inl k,v=>Value.isInt k v
  | .inr x,v=>Value.isStrOf x v
def keyH (w : World) : Key→Int
  | .inl k=>hashInt k
  | .inr x=>hashStr w x
theorem keyIs_shape : ∀ {k : Key} {v : Value},keyIs k v = true→(∃ i t,k = Sum.inl i∧v = Value.int i t)∨(∃ x t,k = Sum.inr x∧v = Value.str x t)
  | .inl i,v,h=>by
    obtain ⟨t,e⟩:=Value.isInt_shape (k:=i) (v:=v) h
    exact .inl ⟨i,t,rfl,e⟩
  | .inr x,v,h=>by
    obtain ⟨t,e⟩:=Value.isStrOf_shape (x:=x) (v:=v) h
    exact .inr ⟨x,t,rfl,e⟩
theorem keyIs_int (i : Int) (t : Tok) : keyIs (.inl i) (.int i t) = true:=by simp [keyIs,Value.isInt]
theorem keyIs_str (x : Str) (t : Tok) : keyIs (.inr x) (.str x t) = true:=by simp [keyIs,Value.isStrOf]
theorem key_ll (a b : Int) : decide ((Sum.inl a : Key) = Sum.inl b) = (a == b):=by
  by_cases e : a = b
  · subst e; simp
  · have h : ¬ (Sum.inl a : Key) = Sum.inl b:=fun q=>e (Sum.inl.inj q)
    rw [decide_eq_false h]
    exact (beq_eq_false_iff_ne.mpr e).symm
theorem key_rr (a b : Str) : decide ((Sum.inr a : Key) = Sum.inr b) = decide (a = b):=by
  by_cases e : a = b
  · subst e; simp
  · have h : ¬ (Sum.inr a : Key) = Sum.inr b:=fun q=>e (Sum.inr.inj q)
    rw [decide_eq_false h,decide_eq_false e]
theorem key_lr (a : Int) (b : Str) : decide ((Sum.inl a : Key) = Sum.inr b) = false:=decide_eq_false (fun q=>nomatch q)
theorem key_rl (a : Str) (b : Int) : decide ((Sum.inr a : Key) = Sum.inl b) = false:=decide_eq_false (fun q=>nomatch q)
def mixKind (prog : Program) (w : World) : PySem.KeyKind prog w Key where
  is:=keyIs
  hash:=keyH w
  inj:=fun v a b ha hb=>by
    rcases keyIs_shape ha with ⟨i,t,rfl,rfl⟩ | ⟨x,t,rfl,rfl⟩
    · rcases keyIs_shape hb with ⟨j,u,rfl,e⟩ | ⟨y,u,rfl,e⟩
      · injection e with e1 _; rw [e1]
      · exact nomatch e
    · rcases keyIs_shape hb with ⟨j,u,rfl,e⟩ | ⟨y,u,rfl,e⟩
      · exact nomatch e
      · injection e with e1 _; rw [e1]
  byValue:=fun k v h=>by
    rcases keyIs_shape h with ⟨i,t,rfl,rfl⟩ | ⟨x,t,rfl,rfl⟩ <;> rfl
  pyHash:=fun hv h=>by
    rcases keyIs_shape hv with ⟨i,t,rfl,rfl⟩ | ⟨x,t,rfl,rfl⟩
    · exact wpAny_pyHash_int h
    · exact wpAny_pyHash_str h
  eqBool:=fun hu hv h=>by
    rcases keyIs_shape hu with ⟨i,t,rfl,rfl⟩ | ⟨x,t,rfl,rfl⟩
    · rcases keyIs_shape hv with ⟨j,u,rfl,rfl⟩ | ⟨y,u,rfl,rfl⟩
      · rw [key_ll] at h; exact wpAny_eqBool_int h
      · rw [key_lr] at h; exact SeqAt.EqAt.int_str i t y u _ _ _ _ h
    · rcases keyIs_shape hv with ⟨j,u,rfl,rfl⟩ | ⟨y,u,rfl,rfl⟩
      · rw [key_rl] at h; exact SeqAt.EqAt.str_int x t j u _ _ _ _ h
      · rw [key_rr] at h; exact wpAny_eqBool_str h
  «strs»:=fun k x t v h=>by
    rcases keyIs_shape h with ⟨i,u,rfl,e⟩ | ⟨y,u,rfl,e⟩
    · exact nomatch e
    · injection e with e1 _
      subst e1
      cases v <;> rfl
theorem mixKind_int (prog : Program) (w : World) (i : Int) (t : Tok) : (mixKind prog w).is (.inl i) (.int i t) = true:=keyIs_int i t
theorem mixKind_str (prog : Program) (w : World) (x : Str) (t : Tok) : (mixKind prog w).is (.inr x) (.str x t) = true:=keyIs_str x t
end L2
namespace L2
open PySem PySem.Spec PyProof.Rows
inductive V where
  | non | bl (b : Bool) | int (i : Int) | str (x : Str) | byt (b : Array UInt8) | flt (b : UInt64) | ref (a : Addr) | ty (n : String)
  deriving DecidableEq
def RelV : V→Value→Prop
  | .non,u=>u = Value.none
  | .bl b,u=>u = Value.bool b
  | .int i,u=>∃ t,u = Value.int i t
  | .str x,u=>∃ t,u = Value.str x t
  | .byt b,u=>∃ t,u = Value.bytes b t
  | .flt b,u=>∃ t,u = Value.float b t
  | .ref a,u=>u = Value.ref a
  | .ty n,u=>u = Value.type n
abbrev Vals : List V→List Value→Prop:=Paired RelV
theorem Vals.length {xs : List V} {us : List Value} (r : Vals xs us) : xs.length = us.length:=Paired.length r
theorem Vals.get : ∀ {xs : List V} {us : List Value} {i : Nat} {x : V},Vals xs us→xs[i]? = some x→∃ u,us[i]? = some u∧RelV x u
  | _,_,_,_,.nil,e=>by simp at e
  | _,_,0,_,.cons r _,e=>by simp at e; subst e; exact ⟨_,rfl,r⟩
  | _,_,i + 1,x,.cons _ t,e=>by
    obtain ⟨u,h1,h2⟩:=Vals.get (i:=i) (x:=x) t (by simpa using e)
    exact ⟨u,by simpa using h1,h2⟩
theorem Vals.set {x : V} {u : Value} (r : RelV x u) : ∀ {xs : List V} {us : List Value} (i : Nat),Vals xs us→Vals (xs.set i x) (us.set i u)
  | _,_,_,.nil=>.nil
  | _,_,0,.cons _ t=>.cons r t
  | _,_,i + 1,.cons q t=>.cons q (Vals.set r i t)
theorem Vals.append : ∀ {xs ys : List V} {us ws : List Value},Vals xs us→Vals ys ws→Vals (xs++ys) (us++ws)
  | _,_,_,_,.nil,s=>s
  | _,_,_,_,.cons r t,s=>.cons r (Vals.append t s)
theorem Vals.take : ∀ {xs : List V} {us : List Value} (n : Nat),Vals xs us→Vals (xs.take n) (us.take n)
  | _,_,0,_=>.nil
  | _,_,_ + 1,.nil=>.nil
  | _,_,n + 1,.cons r t=>.cons r (Vals.take n t)
theorem Vals.drop : ∀ {xs : List V} {us : List Value} (n : Nat),Vals xs us→Vals (xs.drop n) (us.drop n)
  | _,_,0,r=>r
  | _,_,_ + 1,.nil=>.nil
  | _,_,n + 1,.cons _ t=>Vals.drop n t
def RelO : Option V→Option Value→Prop
  | some v,some u=>RelV v u
  | none,none=>True
  | _,_=>False
def KV {κ : Type} : List (κ × V)→List (κ × Value)→Prop:=Paired fun (p : κ × V) (q : κ × Value)=>p.1 = q.1∧RelV p.2 q.2
def kV : Key→V
  | .inl i=>.int i
  | .inr x=>.str x
inductive HO where
  /-- a list -/
  | lst (xs : List V)
  /-- a tuple (never changes) -/
  | tup (xs : List V)
  /-- a dict whose keys are ints and texts; one whose keys are tuples of ints and texts (the empty one is both) -/
  | dK (kvs : List (Key × V)) | dT (kvs : List (List Key × V))
  /-- a set of ints: its members,its size -/
  | set (S : Int→Bool) (n : Nat)
  /-- an instance of the class at C,its dict at dx,its attributes -/
  | ins (C dx : Addr) (fs : List (Str × V))
  /-- the dict of the instance at x -/
  | own (x : Addr)
  /-- the dict of an exception -/
  | xd (fs : List (Str × V))
  /-- a bound method,f of x -/
  | met (f x : Addr)
  /-- a range object lo,lo + 1,.. below hi -/
  | rng (lo hi : Int)
  /-- a thing that is known to the object (the script; a dict while a loop walks it): read,never written while it is so -/
  | frz (o : Obj) (u : HO)
  /-- a code object's table -/
  | tbl (ps : Array Value)
  /-- any other thing,by what is true of its one object (a def of one's own: SetO a S n:=HO.ext fun h=>..) -/
  | ext (φ : Heap→Prop)
abbrev Hp:=Addr→Option HO
def upd (H : Hp) (a : Addr) (o : HO) : Hp:=fun b=>if b = a then some o else H b
theorem upd_same {H : Hp} {a : Addr} {o : HO} : upd H a o a = some o:=by unfold upd; rw [if_pos rfl]
theorem upd_ne {H : Hp} {a b : Addr} {o : HO} (h : b ≠ a) : upd H a o b = H b:=by unfold upd; rw [if_neg h]
theorem ne_of {H : Hp} {a b : Addr} {o u : HO} (h : H a = some o) (h' : H b = some u) (d : o ≠ u) : a ≠ b:=by
  intro e; subst e; rw [h] at h'; exact d (Option.some.inj h')
theorem ne_of_none {H : Hp} {a b : Addr} {o : HO} (h : H a = some o) (h' : H b = none) : a ≠ b:=by
  intro e; subst e; rw [h] at h'; cases h'
section
variable (P : Program) (w : World)
def ObjOk (H : Hp) (h : Heap) (a : Addr) : HO→Prop
  | .lst xs=>xs.length ≤ sizeLine∧∃ (its : List Value) (n : Nat),Vals xs its∧h.get? a = some { cls:=.type "list",data:=.seq its.toArray n }
  | .tup xs=>xs.length ≤ sizeLine∧∃ its : List Value,Vals xs its∧IsTup h a its.toArray
  | .dK kvs=>kvs.length ≤ sizeLine∧(a == sysModules) = false∧∃ vs,KV kvs vs∧h.DictOf (mixKind P w) a vs
  | .dT kvs=>kvs.length ≤ sizeLine∧(a == sysModules) = false∧∃ xs : List (List Key × Addr × Value),
      Paired (fun (p : List Key × V) (q : List Key × Addr × Value)=>p.1 = q.1∧H q.2.1 = some (.tup (p.1.map kV))∧RelV p.2 q.2.2) kvs xs ∧
      ∃ o es ep,h.get? a = some o∧o.ExactDict∧o.data = .dict es ep∧es.toList = xs.map (entryOfKey (tupleKind (mixKind P w)))∧(xs.map (·.1)).Nodup
  | .set S n=>h.SetOf (intKind P w) a S n
  | .ins C dx fs=>H dx = some (.own a)∧fs.length ≤ 1000∧dx ≠ a∧h.get? a = some (PySem.W.instObj C dx) ∧
      ∃ mA,h.Ns1 dx mA∧(∀ f,RelO (fs.lookup f) (mA f))∧PySem.Within mA (fs.map (·.1))
  | .own _=>∃ o,h.get? a = some o
  | .xd fs=>∃ mA,h.Ns1 a mA∧∀ f,RelO (fs.lookup f) (mA f)
  | .rng lo hi=>∃ t u v,h.get? a = some { cls:=.type "range",data:=.fields #[.int lo t,.int hi u,.int 1 v] }
  | .frz o u=>h.get? a = some o∧ObjOk H h a u
  | .tbl ps=>h.get? a = some { cls:=.none,data:=.fields ps }
  | .met f x=>h.get? a = some (PySem.W.methodObj (.ref f) (.ref x))
  | .ext φ=>φ h∧(∃ o,h.get? a = some o)∧∀ h1 h2 : Heap,φ h1→(∀ o,h1.get? a = some o→h2.get? a = some o)→φ h2
def HOk (H : Hp) (h : Heap) : Prop:=∀ a o,H a = some o→ObjOk P w H h a o
end
section
variable {P : Program} {w : World} {H H' : Hp} {h h' : Heap} {a : Addr} {o : HO}
theorem ObjOk.lt (x : ObjOk P w H h a o) : a < h.objs.size:=by
  cases o with
  | lst xs=>obtain ⟨_,_,_,_,e⟩:=x; exact Heap.lt_size e
  | tup xs=>obtain ⟨_,_,_,p⟩:=x; exact p.lt
  | dK kvs=>obtain ⟨_,_,_,_,o,_,_,e,_⟩:=x; exact Heap.lt_size e
  | dT kvs=>obtain ⟨_,_,_,_,o,_,_,e,_⟩:=x; exact Heap.lt_size e
  | set S n=>obtain ⟨o,_,_,_,e,_⟩:=x; exact Heap.lt_size e
  | ins C dx fs=>obtain ⟨_,_,_,e,_⟩:=x; exact Heap.lt_size e
  | own y=>obtain ⟨_,e⟩:=x; exact Heap.lt_size e
  | xd fs=>obtain ⟨_,⟨_,_,_,e,_⟩,_⟩:=x; exact Heap.lt_size e
  | rng lo hi=>obtain ⟨_,_,_,e⟩:=x; exact Heap.lt_size e
  | frz ob u=>obtain ⟨e,_⟩:=x; exact Heap.lt_size e
  | tbl ps=>exact Heap.lt_size (show h.get? a = some _ from x)
  | met f y=>exact Heap.lt_size (show h.get? a = some _ from x)
  | ext φ=>obtain ⟨_,⟨_,e⟩,_⟩:=x; exact Heap.lt_size e
theorem Paired.mapP {α β : Type} {F G : α→β→Prop} : ∀ {l₁ : List α} {l₂ : List β},Paired F l₁ l₂→(∀ a b,F a b→G a b)→Paired G l₁ l₂
  | _,_,.nil,_=>.nil
  | _,_,.cons r t,f=>.cons (f _ _ r) (Paired.mapP t f)
theorem ObjOk.stay (x : ObjOk P w H h a o) (k : ∀ b u,(b = a∨H b = some (.own a))→h.get? b = some u→h'.get? b = some u)
    (ho : ∀ b,H b = some (.own a)→H' b = some (.own a)) (ht : ∀ b xs,H b = some (.tup xs)→H' b = some (.tup xs)) : ObjOk P w H' h' a o:=by
  induction o with
  | lst xs=>obtain ⟨z,its,n,r,e⟩:=x; exact ⟨z,its,n,r,k _ _ (.inl rfl) e⟩
  | tup xs=>obtain ⟨z,its,r,ob,e,c⟩:=x; exact ⟨z,its,r,ob,k _ _ (.inl rfl) e,c⟩
  | dK kvs=>obtain ⟨z,y,vs,r,ob,es,ep,e,c⟩:=x; exact ⟨z,y,vs,r,ob,es,ep,k _ _ (.inl rfl) e,c⟩
  | dT kvs =>
    obtain ⟨z,y,xs,r,ob,es,ep,e,c⟩:=x
    exact ⟨z,y,xs,Paired.mapP r fun p q z=>⟨z.1,ht _ _ z.2.1,z.2.2⟩,ob,es,ep,k _ _ (.inl rfl) e,c⟩
  | set S n=>obtain ⟨ob,es,ep,t,e,c⟩:=x; exact ⟨ob,es,ep,t,k _ _ (.inl rfl) e,c⟩
  | ins C dx fs =>
    obtain ⟨d,z,ne,e,mA,⟨od,es,ep,e2,c⟩,r⟩:=x
    exact ⟨ho _ d,z,ne,k _ _ (.inl rfl) e,mA,⟨od,es,ep,k _ _ (.inr d) e2,c⟩,r⟩
  | own y=>obtain ⟨ob,e⟩:=x; exact ⟨ob,k _ _ (.inl rfl) e⟩
  | xd fs=>obtain ⟨mA,⟨od,es,ep,e,c⟩,r⟩:=x; exact ⟨mA,⟨od,es,ep,k _ _ (.inl rfl) e,c⟩,r⟩
  | rng lo hi=>obtain ⟨t,u,v,e⟩:=x; exact ⟨t,u,v,k _ _ (.inl rfl) e⟩
  | frz ob u ih=>obtain ⟨e,q⟩:=x; exact ⟨k _ _ (.inl rfl) e,ih q⟩
  | tbl ps =>
    have e : h.get? a = some { cls:=.none,data:=.fields ps }:=x
    show h'.get? a = some { cls:=.none,data:=.fields ps }
    exact k a _ (.inl rfl) e
  | met f y =>
    have e : h.get? a = some (PySem.W.methodObj (.ref f) (.ref y)):=x
    show h'.get? a = some (PySem.W.methodObj (.ref f) (.ref y))
    exact k a _ (.inl rfl) e
  | ext φ=>obtain ⟨p,⟨o,e⟩,st⟩:=x; exact ⟨st _ _ p fun o q=>k _ _ (.inl rfl) q,⟨o,k _ _ (.inl rfl) e⟩,st⟩
theorem HOk.lt (x : HOk P w H h) (e : H a = some o) : a < h.objs.size:=(x a o e).lt
theorem HOk.fresh (x : HOk P w H h) (e : h.objs.size ≤ a) : H a = none:=by
  cases q : H a with
  | none=>rfl
  | some u=>exact absurd (Nat.lt_of_lt_of_le (x.lt q) e) (Nat.lt_irrefl _)
theorem HOk.kept (x : HOk P w H h) (k : ∀ b u,h.get? b = some u→h'.get? b = some u) : HOk P w H h':=fun a o e =>
  (x a o e).stay (fun b u _ q=>k b u q) (fun _ q=>q) fun _ _ q=>q
theorem HOk.laid (x : HOk P w H h) (k : ∀ b u,h.get? b = some u→h'.get? b = some u) (hp : h.objs.size ≤ a) (new : ObjOk P w (upd H a o) h' a o) : HOk P w (upd H a o) h':=fun b u e=>by
  have hn:=x.fresh hp
  by_cases hb : b = a
  · subst hb; rw [upd_same] at e; cases e; exact new
  · rw [upd_ne hb] at e
    exact (x b u e).stay (fun c v _ q=>k c v q) (fun c q=>by rw [upd_ne (ne_of_none q hn)]; exact q) fun c xs q=>by rw [upd_ne (ne_of_none q hn)]; exact q
end
def Rd (H : Hp) (a : Addr) (u : HO) : Prop:=H a = some u∨∃ o,H a = some (.frz o u)
theorem Rd.of {H : Hp} {a : Addr} {u : HO} (h : H a = some u) : Rd H a u:=.inl h
theorem Rd.ok {P : Program} {w : World} {H : Hp} {h : Heap} {a : Addr} {u : HO} (r : Rd H a u) (x : HOk P w H h) : ObjOk P w H h a u:=by
  rcases r with r | ⟨o,r⟩
  · exact x a u r
  · obtain ⟨_,q⟩:=x a _ r
    exact q
def Mut : Option HO→Prop
  | some (.lst _)=>True
  | some (.dK _)=>True
  | some (.dT _)=>True
  | some (.set _ _)=>True
  | some (.ins _ _ _)=>True
  | some (.ext _)=>True
  | _=>False
section
variable {P : Program} {w : World} {H : Hp} {h h' : Heap} {x e : Addr} {o' : HO}
theorem HOk.write (ok : HOk P w H h) (mu : Mut (H x)) (he : e = x∨H e = some (.own x)) (k : ∀ b u,b ≠ e→h.get? b = some u→h'.get? b = some u) (heo : ∃ u,h'.get? e = some u)
    (new : ObjOk P w (upd H x o') h' x o') : HOk P w (upd H x o') h':=fun b u q=>by
  have nown : ∀ c y,H c = some (.own y)→c ≠ x:=fun c y r z=>by subst z; rw [r] at mu; exact mu
  have ntup : ∀ c xs,H c = some (.tup xs)→c ≠ x:=fun c xs r z=>by subst z; rw [r] at mu; exact mu
  by_cases hb : b = x
  · subst hb; rw [upd_same] at q; cases q; exact new
  · rw [upd_ne hb] at q
    by_cases hbe : b = e
    · have q' : H b = some (.own x):=by
        rcases he with z | z
        · exact absurd (hbe.trans z) hb
        · rw [hbe]; exact z
      rw [q] at q'; cases q'
      obtain ⟨v,hv⟩:=heo
      exact ⟨v,by rw [hbe]; exact hv⟩
    · refine (ok b u q).stay (fun c v hc r=>k c v ?_ r) (fun c r=>by rw [upd_ne (nown c b r)]; exact r) fun c xs r=>by rw [upd_ne (ntup c xs r)]; exact r
      rcases hc with rfl | hc
      · exact hbe
      · rintro rfl
        rcases he with z | z
        · exact nown c b hc z
        · rw [hc] at z; cases z; exact hb rfl
end
structure Un (fs ex : List Addr) (H H' : Hp) (h h' : Heap) : Prop where
  keep : ∀ b o,h.get? b = some o→H b = none→b ∉ fs→b ∉ ex→h'.get? b = some o
  slot : ∀ b o,h.get? b = some o→H b = none→b ∈ fs→b ∉ ex→∃ sl,h'.get? b = some { o with slots:=sl }
  free : ∀ b o,h.get? b = some o→H b = none→b ∉ ex→H' b = none
  there : ∀ b o,h.get? b = some o→b ∉ ex→∃ o',h'.get? b = some o'
  tups : ∀ b xs,H b = some (.tup xs)→H' b = some (.tup xs)
  frzs : ∀ b o u,H b = some (.frz o u)→H' b = some (.frz o u)
  tbls : ∀ b ps,H b = some (.tbl ps)→∃ more,H' b = some (.tbl (ps++more))
section
variable {fs fs' ex ex' : List Addr} {H H1 H2 : Hp} {h h1 h2 h' : Heap} {a x e : Addr} {o : HO}
theorem Un.any (u : Un fs ex H H1 h h1) {b : Addr} {ob : Obj} (q : h.get? b = some ob) (n : H b = none) (hx : b ∉ ex) : ∃ sl,h1.get? b = some { ob with slots:=sl }:=by
  by_cases hb : b ∈ fs
  · exact u.slot b ob q n hb hx
  · exact ⟨ob.slots,u.keep b ob q n hb hx⟩
theorem Un.trans (a : Un fs ex H H1 h h1) (b : Un fs ex H1 H2 h1 h2) : Un fs ex H H2 h h2 where
  keep:=fun c ob q n hc hx=>b.keep c ob (a.keep c ob q n hc hx) (a.free c ob q n hx) hc hx
  slot:=fun c ob q n hc hx=>by
    obtain ⟨sl,e1⟩:=a.slot c ob q n hc hx
    obtain ⟨sl',e2⟩:=b.slot c _ e1 (a.free c ob q n hx) hc hx
    exact ⟨sl',e2⟩
  free:=fun c ob q n hx=>by
    obtain ⟨o',e1⟩:=a.there c ob q hx
    exact b.free c o' e1 (a.free c ob q n hx) hx
  there:=fun c ob q hx=>by
    obtain ⟨o',e1⟩:=a.there c ob q hx
    exact b.there c o' e1 hx
  tups:=fun c xs q=>b.tups c xs (a.tups c xs q)
  frzs:=fun c ob xs q=>b.frzs c ob xs (a.frzs c ob xs q)
  tbls:=fun c ps q=>by
    obtain ⟨m1,e1⟩:=a.tbls c ps q
    obtain ⟨m2,e2⟩:=b.tbls c _ e1
    exact ⟨m1++m2,by rw [e2,Array.append_assoc]⟩
theorem Un.kept (k : ∀ b u,h.get? b = some u→h'.get? b = some u) : Un fs ex H H h h' :=
  ⟨fun b ob q _ _ _=>k b ob q,fun b ob q _ _ _=>⟨ob.slots,k b ob q⟩,fun _ _ _ n _=>n,fun b ob q _=>⟨ob,k b ob q⟩,fun _ _ q=>q,fun _ _ _ q=>q,fun _ ps q=>⟨#[],by rw [q]; simp⟩⟩
theorem Un.refl : Un fs ex H H h h:=Un.kept fun _ _ q=>q
theorem Un.laid (k : ∀ b u,h.get? b = some u→h'.get? b = some u) (hp : h.objs.size ≤ a) (hn : H a = none) : Un fs ex H (upd H a o) h h' where
  keep:=fun b u q _ _ _=>k b u q
  slot:=fun b u q _ _ _=>⟨u.slots,k b u q⟩
  free:=fun b u q n _=>by rw [upd_ne (Nat.ne_of_lt (Nat.lt_of_lt_of_le (Heap.lt_size q) hp))]; exact n
  there:=fun b u q _=>⟨u,k b u q⟩
  tups:=fun b xs q=>by rw [upd_ne (ne_of_none q hn)]; exact q
  frzs:=fun b u xs q=>by rw [upd_ne (ne_of_none q hn)]; exact q
  tbls:=fun b ps q=>⟨#[],by rw [upd_ne (ne_of_none q hn),q]; simp⟩
theorem Un.write (mu : Mut (H x)) (he : e = x∨H e = some (.own x)) (k : ∀ b u,b ≠ e→h.get? b = some u→h'.get? b = some u) (heo : ∃ u,h'.get? e = some u) : Un fs ex H (upd H x o) h h':=by
  have hx : ∀ b,H b = none→b ≠ x:=fun b n z=>by subst z; rw [n] at mu; exact mu
  have hb : ∀ b,H b = none→b ≠ e:=fun b n z=>by
    subst z
    rcases he with r | r
    · exact hx b n r
    · rw [n] at r; cases r
  have hm : ∀ b u,H b = some u→¬ Mut (some u)→b ≠ x:=fun b u q nm z=>by subst z; rw [q] at mu; exact nm mu
  refine ⟨fun b u q n _ _=>k b u (hb b n) q,fun b u q n _ _=>⟨u.slots,k b u (hb b n) q⟩,fun b u q n _=>by rw [upd_ne (hx b n)]; exact n,fun b u q _=>?_,
    fun b xs q=>by rw [upd_ne (hm b _ q fun z=>z)]; exact q,fun b u xs q=>by rw [upd_ne (hm b _ q fun z=>z)]; exact q,fun b ps q=>⟨#[],by rw [upd_ne (hm b _ q fun z=>z),q]; simp⟩⟩
  by_cases hbe : b = e
  · subst hbe; exact heo
  · exact ⟨u,k b u hbe q⟩
theorem Un.mono (u : Un fs ex H H1 h h1) (hs : ∀ b ∈ fs,b ∈ fs') (hx : ∀ b ∈ ex,b ∈ ex') : Un fs' ex' H H1 h h1 :=
  ⟨fun b ob q n hb he=>u.keep b ob q n (fun z=>hb (hs b z)) fun z=>he (hx b z),fun _ _ q n _ he=>u.any q n fun z=>he (hx _ z),fun b ob q n he=>u.free b ob q n fun z=>he (hx b z),fun b ob q he=>u.there b ob q fun z=>he (hx b z),u.tups,u.frzs,u.tbls⟩
end
def trk (h : Heap) (H : Hp) : List Addr:=(List.range h.objs.size).filter fun a=>(H a).isSome
def hidT (h : Heap) (H : Hp) : Heap:=PySem.W.hideAll h (trk h H)
theorem hidT_size (h : Heap) (H : Hp) : (hidT h H).objs.size = h.objs.size:=PySem.W.hideAll_size _ _
theorem hidT_get {h : Heap} {H : Hp} {b : Addr} {o : Obj} (e : h.get? b = some o) (n : H b = none) : (hidT h H).get? b = some o :=
  PySem.W.hideAll_get _ e fun hm=>by
    have q : (H b).isSome = true:=(List.mem_filter.mp hm).2
    rw [n] at q; simp at q
theorem of_hidT {h : Heap} {H : Hp} {b : Addr} {o : Obj} (e : (hidT h H).get? b = some o) : h.get? b = some o∧H b = none:=by
  have e' : h.get? b = some o:=PySem.W.of_hideAll (trk h H) e
  refine ⟨e',?_⟩
  cases q : H b with
  | none=>rfl
  | some x =>
    have hm : b ∈ trk h H:=List.mem_filter.mpr ⟨List.mem_range.mpr (Heap.lt_size e'),by simp [q]⟩
    have z : (hidT h H).get? b = none:=PySem.W.hideAll_none (trk h H) hm
    rw [z] at e; cases e
def allNews (g h : Heap) (L : Addr) : List (Addr × Obj):=(List.range h.objs.size).filterMap fun a=>if a = L∨(g.get? a).isSome = true then none else (h.get? a).map fun o=>(a,o)
def rest (g h : Heap) (L d : Addr) : List (Addr × Obj):=(allNews g h L).filter fun p=>decide (p.1 ≠ d)
end L2
namespace L2
open PySem PySem.Spec PyProof.Rows
structure Mod (K : PySem.W.Frag) (mg : Str→Option Value) (base : Heap) : Prop where
  kin : K.In base
  glob : base.Ns mainGlobals mg
  blt : ∃ mb,base.Ns builtinsNs mb∧∀ x : Str,x ≠ "__name__"→mb x = bootBuiltins x
  nolimit : base.NoLimit
structure Cx where
  prog : Program
  w : World
  K : PySem.W.Frag
  mg : Str→Option Value
  base : Heap
  A : Around
  N : List Str
  s₀ : Shared
  H₀ : Hp
  env : Env
  outer : List Env
  stack : List Env
  ex : List Addr
  fn : Str→Bool
  calm : Bool
  pn : List (Addr × Obj)
  xe : Value→Shared→Prop
def frs (l : List Env) : List Addr:=l.filterMap (·.frame)
abbrev Cx.fs (X : Cx) : List Addr:=frs X.outer
def Vis (sc : Scope) (x : Str) : Prop:=sc.names.lookup x = some .local∨sc.names.lookup x = some .cell∨sc.names.lookup x = some .free
def Loc (sc : Scope) (x : Str) : Prop:=sc.names.lookup x = some .local∨sc.names.lookup x = some .cell
def Look (env : Env) (h : Heap) (m : Str→Option Value) (x : Str) (u : Value) : Prop :=
  (env.kindOf x = some .local∧m x = some u)∨((env.kindOf x = some .cell∨env.kindOf x = some .free)∧∃ c,env.cells.lookup x = some c∧h.IsCell c (some u))
structure Cx.Ok (X : Cx) : Prop where
  mod : Mod X.K X.mg X.base
  kind : X.env.scope.kind = .function
  glob : X.env.globals = mainGlobals
  blt : X.env.builtins = builtinsNs
  above : X.s₀.heap.objs.size ≤ X.env.locals
  inj : ∀ x y c,X.env.cells.lookup x = some c→X.env.cells.lookup y = some c→x = y
  has : ∀ x,(X.env.kindOf x = some .cell∨X.env.kindOf x = some .free)→∃ c,X.env.cells.lookup x = some c
  cab : ∀ x c,X.fn x = true→X.env.cells.lookup x = some c→X.s₀.heap.objs.size ≤ c
  hd : X.calm = true→X.A.handled = none
  frames : X.A.frames = some X.stack
  stk : X.stack = X.outer∨(X.stack = X.env::X.outer∧X.env.frame = some X.env.locals)
  exf : ∀ b ∈ X.ex,b ≠ X.env.locals∧∀ x c,X.env.cells.lookup x = some c→c ≠ b
  bs : ∀ b o,X.base.get? b = some o→X.s₀.heap.get? b = some o∧X.H₀ b = none
  bsz : X.base.objs.size ≤ X.s₀.heap.objs.size
  noex : ∀ b o,X.base.get? b = some o→b ∉ X.ex
  exfs : ∀ b ∈ X.ex,b ∉ X.fs
  funs : X.s₀.heap.FunFrames X.base X.outer
  frf : ∀ b ∈ X.fs,X.H₀ b = none
structure Inv (X : Cx) (pins : List (Addr × Obj)) (σ : List (Option V)) (H : Hp) (s : Shared) : Prop where
  ok : X.Ok
  os : s.os = X.s₀.os
  bare : AllBare s.gens
  base : Un X.fs X.ex X.H₀ H X.s₀.heap s.heap
  loc : ∃ m,s.heap.Ns X.env.locals m∧∀ (i : Nat) (x : Str) (v : V),X.N[i]? = some x→σ[i]? = some (some v)→Vis X.env.scope x→∃ u,RelV v u∧Look X.env s.heap m x u
  cell : ∀ x c,X.env.cells.lookup x = some c→∃ v,s.heap.IsCell c v
  free : H X.env.locals = none
  freeC : ∀ x c,X.env.cells.lookup x = some c→H c = none
  pin : ∀ p ∈ X.pn++pins,s.heap.get? p.1 = some p.2∧H p.1 = none∧p.1 ≠ X.env.locals∧p.1 ∉ X.fs∧∀ v,p.2.data ≠ .cell v
  hok : HOk X.prog X.w H s.heap
  len : σ.length = X.N.length
section
variable {X : Cx} {pins : List (Addr × Obj)} {σ : List (Option V)} {H H' : Hp} {s : Shared} {h' : Heap}
theorem Cx.Ok.nofr (ok : X.Ok) {b : Addr} {o : Obj} (e : X.base.get? b = some o) : b ∉ X.fs:=fun hb=>by
  have:=(ok.funs.mem hb).1
  rw [e] at this; cases this
theorem Inv.bs (I : Inv X pins σ H s) : ∀ b o,X.base.get? b = some o→s.heap.get? b = some o∧H b = none:=fun b o e =>
  ⟨I.base.keep b o (I.ok.bs b o e).1 (I.ok.bs b o e).2 (I.ok.nofr e) (I.ok.noex b o e),I.base.free b o (I.ok.bs b o e).1 (I.ok.bs b o e).2 (I.ok.noex b o e)⟩
theorem Inv.bk (I : Inv X pins σ H s) : ∀ b o,X.base.get? b = some o→s.heap.get? b = some o:=fun b o e=>(I.bs b o e).1
theorem Inv.mod (I : Inv X pins σ H s) : Mod X.K X.mg X.base:=I.ok.mod
theorem Inv.kIn (I : Inv X pins σ H s) : X.K.In s.heap:=I.ok.mod.kin.keeps I.bk
theorem Inv.nolimit (I : Inv X pins σ H s) : s.heap.NoLimit:=I.ok.mod.nolimit.keeps I.bk
theorem Inv.fr (I : Inv X pins σ H s) : ∃ m,Fr X.base X.env.locals s.heap m :=
  let ⟨m,hn,_⟩:=I.loc
  ⟨m,hn,I.bk,Nat.le_trans I.ok.bsz I.ok.above⟩
theorem Inv.lt (I : Inv X pins σ H s) : X.env.locals < s.heap.objs.size:=let ⟨_,hn,_⟩:=I.loc; hn.lt
theorem Inv.sz (I : Inv X pins σ H s) : X.s₀.heap.objs.size ≤ s.heap.objs.size:=Nat.le_trans I.ok.above (Nat.le_of_lt I.lt)
theorem Inv.nofs (I : Inv X pins σ H s) {a : Addr} (h : s.heap.objs.size ≤ a) : a ∉ X.fs:=fun hb=>by
  obtain ⟨_,o,ho,_⟩:=I.ok.funs.mem hb
  exact absurd (Nat.lt_of_lt_of_le (Heap.lt_size ho) (Nat.le_trans I.sz h)) (Nat.lt_irrefl _)
theorem Inv.cne (I : Inv X pins σ H s) : ∀ x c,X.env.cells.lookup x = some c→c ≠ X.env.locals:=fun x c e z=>by
  obtain ⟨v,o,ho,hd⟩:=I.cell x c e
  obtain ⟨m,⟨o',es,ep,ho',hd',_⟩,_⟩:=I.loc
  rw [z,ho'] at ho; cases ho; rw [hd'] at hd; cases hd
theorem Inv.funs (I : Inv X pins σ H s) : s.heap.FunFrames X.base X.outer:=by
  have all : ∀ (l : List Env),(∀ b ∈ frs l,b ∈ X.fs)→X.s₀.heap.FunFrames X.base l→s.heap.FunFrames X.base l:=by
    intro l
    induction l with
    | nil=>intro _ _; trivial
    | cons env r ih =>
      intro hs hl
      obtain ⟨hk,⟨L,o,hf,hn,ho,hd⟩,hr⟩:=hl
      have hL : L ∈ X.fs:=hs L (by unfold frs; rw [List.filterMap_cons,hf]; exact List.mem_cons_self)
      obtain ⟨sl,e⟩:=I.base.slot L o ho (I.ok.frf L hL) hL fun z=>I.ok.exfs L z hL
      exact ⟨hk,⟨L,_,hf,hn,e,hd⟩,ih (fun b hb=>hs b (by unfold frs; rw [List.filterMap_cons,hf]; exact List.mem_cons_of_mem _ hb)) hr⟩
  exact all X.outer (fun _ hb=>hb) I.ok.funs
theorem Inv.stack (I : Inv X pins σ H s) : s.heap.FunFrames X.base X.stack:=by
  rcases I.ok.stk with e | ⟨e,hf⟩
  · rw [e]; exact I.funs
  · rw [e]
    obtain ⟨m,hn,_⟩:=I.loc
    refine .cons (by rw [I.ok.kind]; decide) hf hn ?_ I.funs
    exact Heap.get?_none_of_le (Nat.le_trans I.ok.bsz I.ok.above)
theorem Inv.stkSub (I : Inv X pins σ H s) : ∀ b ∈ frs X.stack,b ∈ X.env.locals::X.fs:=fun b hb=>by
  rcases I.ok.stk with e | ⟨e,hf⟩
  · rw [e] at hb; exact List.mem_cons_of_mem _ hb
  · rw [e] at hb
    unfold frs at hb
    rw [List.filterMap_cons,hf] at hb
    exact hb
theorem Inv.stkFree (I : Inv X pins σ H s) : ∀ b ∈ frs X.stack,H b = none:=fun b hb=>by
  rcases List.mem_cons.mp (I.stkSub b hb) with e | hb
  · rw [e]; exact I.free
  · obtain ⟨_,o,ho,_⟩:=I.ok.funs.mem hb
    exact I.base.free b o ho (I.ok.frf b hb) fun z=>I.ok.exfs b z hb
theorem Inv.step {g' : Array GenState} {t' : Nat} {d' : Drawn} {ch : List Addr} (I : Inv X pins σ H s)
    (hch : ∀ b ∈ ch,(b ∈ X.ex∨X.s₀.heap.objs.size ≤ b)∧b ≠ X.env.locals∧(∀ x c,X.env.cells.lookup x = some c→c ≠ b)∧∀ p ∈ X.pn++pins,p.1 ≠ b)
    (keep : ∀ b o,b ≠ X.env.locals→b ∉ X.fs→b ∉ ch→s.heap.get? b = some o→H b = none→h'.get? b = some o)
    (slot : ∀ b o,b ≠ X.env.locals→b ∈ X.fs→b ∉ ch→s.heap.get? b = some o→H b = none→∃ sl,h'.get? b = some { o with slots:=sl }) (free : ∀ b o,b ∉ ch→s.heap.get? b = some o→H b = none→H' b = none)
    (there : ∀ b o,b ∉ ch→s.heap.get? b = some o→∃ o',h'.get? b = some o')
    (tups : ∀ b xs,H b = some (.tup xs)→H' b = some (.tup xs)) (frzs : ∀ b o u,H b = some (.frz o u)→H' b = some (.frz o u)) (tbls : ∀ b ps,H b = some (.tbl ps)→∃ more,H' b = some (.tbl (ps++more)))
    (ns : ∀ m,s.heap.Ns X.env.locals m→h'.Ns X.env.locals m) (hok : HOk X.prog X.w H' h') (hg : AllBare g') :
    Inv X pins σ H' { s with heap:=h',gens:=g',drawn:=d',toks:=t' }:=by
  have neL : ∀ b o,X.s₀.heap.get? b = some o→b ≠ X.env.locals:=fun b o e=>Nat.ne_of_lt (Nat.lt_of_lt_of_le (Heap.lt_size e) I.ok.above)
  have neC : ∀ b o,X.s₀.heap.get? b = some o→b ∉ X.ex→b ∉ ch:=fun b o e hx hb=>by
    rcases (hch b hb).1 with z | z
    · exact hx z
    · exact absurd (Nat.lt_of_lt_of_le (Heap.lt_size e) z) (Nat.lt_irrefl _)
  have cellK : ∀ x c,X.env.cells.lookup x = some c→∀ v,s.heap.IsCell c v→h'.IsCell c v:=fun x c e v ⟨o,ho,hd⟩=>by
    have nch : c ∉ ch:=fun z=>(hch c z).2.2.1 x c e rfl
    by_cases hc : c ∈ X.fs
    · obtain ⟨sl,q⟩:=slot c o (I.cne x c e) hc nch ho (I.freeC x c e)
      exact ⟨_,q,hd⟩
    · exact ⟨o,keep c o (I.cne x c e) hc nch ho (I.freeC x c e),hd⟩
  refine ⟨I.ok,I.os,hg,⟨fun b o e n hb hx=>?_,fun b o e n hb hx=>?_,fun b o e n hx=>?_,fun b o e hx=>?_,fun b xs e=>tups b xs (I.base.tups b xs e),fun b o xs e=>frzs b o xs (I.base.frzs b o xs e),fun b ps e=>?_⟩,?_,fun x c e=>?_,?_,fun x c e=>?_,fun p hp=>?_,hok,I.len⟩
  · exact keep b o (neL b o e) hb (neC b o e hx) (I.base.keep b o e n hb hx) (I.base.free b o e n hx)
  · obtain ⟨sl,e1⟩:=I.base.slot b o e n hb hx
    obtain ⟨sl',e2⟩:=slot b _ (neL b o e) hb (neC b o e hx) e1 (I.base.free b o e n hx)
    exact ⟨sl',e2⟩
  · obtain ⟨o',e1⟩:=I.base.there b o e hx
    exact free b o' (neC b o e hx) e1 (I.base.free b o e n hx)
  · obtain ⟨o',e1⟩:=I.base.there b o e hx
    exact there b o' (neC b o e hx) e1
  · obtain ⟨m1,e1⟩:=I.base.tbls b ps e
    obtain ⟨m2,e2⟩:=tbls b _ e1
    exact ⟨m1++m2,by rw [e2,Array.append_assoc]⟩
  · obtain ⟨m,hn,hl⟩:=I.loc
    refine ⟨m,ns m hn,fun i x v e1 e2 e3=>?_⟩
    obtain ⟨u,r,l⟩:=hl i x v e1 e2 e3
    refine ⟨u,r,?_⟩
    rcases l with l | ⟨k,c,e,z⟩
    · exact .inl l
    · exact .inr ⟨k,c,e,cellK x c e _ z⟩
  · obtain ⟨v,z⟩:=I.cell x c e
    exact ⟨v,cellK x c e v z⟩
  · obtain ⟨m,⟨o,_,_,ho,_⟩,_⟩:=I.loc
    exact free _ o (fun z=>(hch _ z).2.1 rfl) ho I.free
  · obtain ⟨v,o,ho,hd⟩:=I.cell x c e
    exact free c o (fun z=>(hch c z).2.2.1 x c e rfl) ho (I.freeC x c e)
  · obtain ⟨e,n,ne,nf,d⟩:=I.pin p hp
    have nch : p.1 ∉ ch:=fun z=>(hch p.1 z).2.2.2 p hp rfl
    exact ⟨keep p.1 p.2 ne nf nch e n,free p.1 p.2 nch e n,ne,nf,d⟩
theorem Inv.un {t' : Nat} (I : Inv X pins σ H s) (u : Un X.fs [] H H' s.heap h') (hok : HOk X.prog X.w H' h') : Inv X pins σ H' { s with heap:=h',toks:=t' }:=by
  obtain ⟨m,⟨o,es,ep,ho,r⟩,_⟩:=id I.loc
  obtain ⟨sl,hL⟩:=u.any ho I.free (by simp)
  exact I.step (g':=s.gens) (d':=s.drawn) (ch:=[]) (fun _ z=>nomatch z) (fun b o _ hb _ e n=>u.keep b o e n hb (by simp)) (fun b o _ hb _ e n=>u.slot b o e n hb (by simp)) (fun b o _ e n=>u.free b o e n (by simp)) (fun b o _ e=>u.there b o e (by simp)) u.tups u.frzs u.tbls (fun m' hm=>by
    obtain ⟨o',es',ep',ho',r'⟩:=hm
    rw [ho] at ho'; cases ho'
    exact ⟨_,es',ep',hL,r'⟩) hok I.bare
theorem Inv.call {g' : Array GenState} {t' : Nat} {d' : Drawn} {ch : List Addr} (I : Inv X pins σ H s) (u : Un (frs X.stack) ch H H' s.heap h') (hok : HOk X.prog X.w H' h') (hg : AllBare g')
    (hch : ∀ b ∈ ch,(b ∈ X.ex∨X.s₀.heap.objs.size ≤ b)∧b ≠ X.env.locals∧(∀ x c,X.env.cells.lookup x = some c→c ≠ b)∧∀ p ∈ X.pn++pins,p.1 ≠ b) :
    Inv X pins σ H' { s with heap:=h',gens:=g',drawn:=d',toks:=t' }:=by
  obtain ⟨m,⟨o,es,ep,ho,r⟩,_⟩:=id I.loc
  obtain ⟨sl,hL⟩:=u.any ho I.free fun z=>(hch _ z).2.1 rfl
  exact I.step (ch:=ch) hch (fun b o hL hb hc e n=>u.keep b o e n (fun z=>(List.mem_cons.mp (I.stkSub b z)).elim hL hb) hc) (fun b o _ _ hc e n=>u.any e n hc) (fun b o hc e n=>u.free b o e n hc) (fun b o hc e=>u.there b o e hc) u.tups u.frzs u.tbls (fun m' hm=>by
    obtain ⟨o',es',ep',ho',r'⟩:=hm
    rw [ho] at ho'; cases ho'
    exact ⟨_,es',ep',hL,r'⟩) hok hg
theorem Inv.turned {t' : Nat} {it : Addr} (I : Inv X pins σ H s) (k : ∀ b o,b ≠ it→s.heap.get? b = some o→h'.get? b = some o) (hn : H it = none) (hL : it ≠ X.env.locals)
    (h1 : it ∈ X.ex∨X.s₀.heap.objs.size ≤ it) (h2 : ∀ x c,X.env.cells.lookup x = some c→c ≠ it) (h3 : ∀ p ∈ X.pn++pins,p.1 ≠ it) : Inv X pins σ H { s with heap:=h',toks:=t' }:=by
  have nit : ∀ b u,H b = some u→b ≠ it:=fun b u e z=>by rw [z,hn] at e; cases e
  refine I.step (g':=s.gens) (d':=s.drawn) (ch:=[it]) (fun b hb=>?_) (fun b o _ _ hc e _=>k b o (fun z=>hc (by simp [z])) e) (fun b o _ _ hc e _=>⟨o.slots,k b o (fun z=>hc (by simp [z])) e⟩) (fun _ _ _ _ n=>n)
    (fun b o hc e=>⟨o,k b o (fun z=>hc (by simp [z])) e⟩) (fun _ _ e=>e) (fun _ _ _ e=>e) (fun b ps e=>⟨#[],by rw [e]; simp⟩) (fun m hm=>?_) (fun b u e=>?_) I.bare
  · have e : b = it:=by simpa using hb
    subst e
    exact ⟨h1,hL,h2,h3⟩
  · obtain ⟨o,es,ep,ho,r⟩:=hm
    exact ⟨o,es,ep,k _ o (Ne.symm hL) ho,r⟩
  · refine (I.hok b u e).stay (fun c v hc q=>k c v ?_ q) (fun _ q=>q) fun _ _ q=>q
    rcases hc with z | z
    · rw [z]; exact nit b u e
    · exact nit c _ z
theorem Inv.tok (I : Inv X pins σ H s) (t : Nat) : Inv X pins σ H { s with toks:=t }:=I.un (h':=s.heap) (t':=t) Un.refl I.hok
theorem Inv.kept {t' : Nat} (I : Inv X pins σ H s) (k : ∀ b u,s.heap.get? b = some u→h'.get? b = some u) : Inv X pins σ H { s with heap:=h',toks:=t' }:=I.un (Un.kept k) (I.hok.kept k)
theorem Inv.laid {a : Addr} {o : HO} {t' : Nat} (I : Inv X pins σ H s) (k : ∀ b u,s.heap.get? b = some u→h'.get? b = some u) (hp : s.heap.objs.size ≤ a) (new : ObjOk X.prog X.w (upd H a o) h' a o) :
    Inv X pins σ (upd H a o) { s with heap:=h',toks:=t' }:=I.un (Un.laid k hp (I.hok.fresh hp)) (I.hok.laid k hp new)
theorem Inv.write {x e : Addr} {o : HO} {t' : Nat} (I : Inv X pins σ H s) (mu : Mut (H x)) (he : e = x∨H e = some (.own x)) (k : ∀ b u,b ≠ e→s.heap.get? b = some u→h'.get? b = some u) (heo : ∃ u,h'.get? e = some u)
    (new : ObjOk X.prog X.w (upd H x o) h' x o) : Inv X pins σ (upd H x o) { s with heap:=h',toks:=t' }:=I.un (Un.write mu he k heo) (I.hok.write mu he k heo new)
theorem Inv.pins_of {pins' : List (Addr × Obj)} (I : Inv X pins σ H s) (h : ∀ p ∈ pins',s.heap.get? p.1 = some p.2∧H p.1 = none∧p.1 ≠ X.env.locals∧p.1 ∉ X.fs∧∀ v,p.2.data ≠ .cell v) : Inv X pins' σ H s :=
  ⟨I.ok,I.os,I.bare,I.base,I.loc,I.cell,I.free,I.freeC,fun p hp=>(List.mem_append.mp hp).elim (fun z=>I.pin p (List.mem_append_left _ z)) (h p),I.hok,I.len⟩
theorem nodup_ix {N : List Str} (hN : N.Nodup) {i j : Nat} {x : Str} (a : N[i]? = some x) (b : N[j]? = some x) : i = j:=by
  obtain ⟨h1,e1⟩:=List.getElem?_eq_some_iff.mp a
  obtain ⟨h2,e2⟩:=List.getElem?_eq_some_iff.mp b
  exact (List.getElem_inj hN).mp (e1.trans e2.symm)
theorem store_ok2 {M : Model} {A : Around} {E : Value→Shared→Prop} {i : Nat} {x : Str} {v : V} {u : Value} {Q : Unit→Shared→Prop} (I : Inv X pins σ H s) (hN : X.N.Nodup) (hi : X.N[i]? = some x) (hx : Loc X.env.scope x) (r : RelV v u)
    (h : ∀ s',Inv X pins (σ.set i (some v)) H s'→(∃ a,Heap.SameBut a s.heap s'.heap∧(a = X.env.locals∨X.env.cells.lookup x = some a))→Q () s') (hf : X.fn x = true∨X.env.scope.names.lookup x = some .local:=by first | exact .inl rfl | exact .inr rfl | assumption) : wpAny M A (storeName X.env x u) Q E s:=by
  obtain ⟨m,hn,hl⟩:=id I.loc
  have hcls : (X.env.scope.kind == .class || (X.env.scope.kind == .module && X.env.locals != X.env.globals)) = false:=by rw [I.ok.kind]; rfl
  have hiσ : i < σ.length:=by rw [I.len]; exact (List.getElem?_eq_some_iff.mp hi).1
  have cne:=I.cne
  have tracked : ∀ {a : Addr} {h' : Heap},(∃ o,s.heap.get? a = some o∧H a = none)→Heap.SameBut a s.heap h'→HOk X.prog X.w H h':=fun {a h'} ha hs b ob e=>by
    obtain ⟨_,_,hfree⟩:=ha
    refine (I.hok b ob e).stay (fun c w' hc q=>(hs.2 c ?_).trans q) (fun _ q=>q) fun _ _ q=>q
    rintro rfl
    rcases hc with rfl | hc
    · rw [hfree] at e; cases e
    · rw [hfree] at hc; cases hc
  rcases hx with hk | hk
  · refine wpAny_storeName_local hk hn (fun h' hn' hs=>?_) hcls
    obtain ⟨oL,_,_,hoL,_⟩:=id hn
    refine h _ ⟨I.ok,I.os,I.bare,⟨fun b o e n hb hx=>?_,fun b o e n hb hx=>?_,I.base.free,fun b o e hx=>?_,I.base.tups,I.base.frzs,I.base.tbls⟩,⟨_,hn',fun j y v' e1 e2 e3=>?_⟩,fun y c e=>?_,I.free,I.freeC,fun p hp=>?_,tracked ⟨oL,hoL,I.free⟩ hs,by simpa using I.len⟩ ⟨_,hs,.inl rfl⟩
    · exact (hs.2 b (Nat.ne_of_lt (Nat.lt_of_lt_of_le (Heap.lt_size e) I.ok.above))).trans (I.base.keep b o e n hb hx)
    · obtain ⟨sl,e1⟩:=I.base.slot b o e n hb hx
      exact ⟨sl,(hs.2 b (Nat.ne_of_lt (Nat.lt_of_lt_of_le (Heap.lt_size e) I.ok.above))).trans e1⟩
    · obtain ⟨o',e1⟩:=I.base.there b o e hx
      exact ⟨o',(hs.2 b (Nat.ne_of_lt (Nat.lt_of_lt_of_le (Heap.lt_size e) I.ok.above))).trans e1⟩
    · by_cases hj : j = i
      · subst hj
        rw [hi] at e1; cases e1
        rw [List.getElem?_set_self hiσ] at e2
        cases e2
        exact ⟨u,r,.inl ⟨hk,by simp⟩⟩
      · rw [List.getElem?_set_ne (Ne.symm hj)] at e2
        obtain ⟨u',r',q⟩:=hl j y v' e1 e2 e3
        refine ⟨u',r',?_⟩
        rcases q with ⟨k,e⟩ | ⟨k,c,e,z⟩
        · refine .inl ⟨k,?_⟩
          have : y ≠ x:=fun e=>hj (nodup_ix hN e1 (e ▸ hi))
          simp [this,e]
        · exact .inr ⟨k,c,e,z.sameBut hs (cne y c e)⟩
    · obtain ⟨w',z⟩:=I.cell y c e
      exact ⟨w',z.sameBut hs (cne y c e)⟩
    · obtain ⟨e,n,ne,nf,d⟩:=I.pin p hp
      exact ⟨(hs.2 p.1 ne).trans e,n,ne,nf,d⟩
  · have hfn : X.fn x = true:=by
      rcases hf with z | z
      · exact z
      · rw [z] at hk; cases hk
    obtain ⟨c,hc⟩:=I.ok.has x (.inl hk)
    obtain ⟨w',z⟩:=I.cell x c hc
    refine wpAny_storeName_cell I.ok.kind hk hc z (fun h' hc' hs=>?_)
    obtain ⟨oc,hoc,hocd⟩:=id z
    refine h { s with heap:=h' } ⟨I.ok,I.os,I.bare,⟨fun b o e n hb hx=>?_,fun b o e n hb hx=>?_,I.base.free,fun b o e hx=>?_,I.base.tups,I.base.frzs,I.base.tbls⟩,⟨m,hn.sameBut hs (Ne.symm (cne x c hc)),fun j y v' e1 e2 e3=>?_⟩,fun y c' e=>?_,I.free,I.freeC,fun p hp=>?_,tracked ⟨oc,hoc,I.freeC x c hc⟩ hs,by simpa using I.len⟩ ⟨c,hs,.inr hc⟩
    · exact (hs.2 b (Nat.ne_of_lt (Nat.lt_of_lt_of_le (Heap.lt_size e) (I.ok.cab x c hfn hc)))).trans (I.base.keep b o e n hb hx)
    · obtain ⟨sl,e1⟩:=I.base.slot b o e n hb hx
      exact ⟨sl,(hs.2 b (Nat.ne_of_lt (Nat.lt_of_lt_of_le (Heap.lt_size e) (I.ok.cab x c hfn hc)))).trans e1⟩
    · obtain ⟨o',e1⟩:=I.base.there b o e hx
      exact ⟨o',(hs.2 b (Nat.ne_of_lt (Nat.lt_of_lt_of_le (Heap.lt_size e) (I.ok.cab x c hfn hc)))).trans e1⟩
    · by_cases hj : j = i
      · subst hj
        rw [hi] at e1; cases e1
        rw [List.getElem?_set_self hiσ] at e2
        cases e2
        exact ⟨u,r,.inr ⟨.inl hk,c,hc,hc'⟩⟩
      · rw [List.getElem?_set_ne (Ne.symm hj)] at e2
        obtain ⟨u',r',q⟩:=hl j y v' e1 e2 e3
        refine ⟨u',r',?_⟩
        rcases q with q | ⟨k,c',e,z'⟩
        · exact .inl q
        · refine .inr ⟨k,c',e,z'.sameBut hs ?_⟩
          rintro rfl
          exact hj (nodup_ix hN e1 (I.ok.inj _ _ _ e hc ▸ hi))
    · by_cases hcc : c' = c
      · subst hcc; exact ⟨_,hc'⟩
      · obtain ⟨w2,z2⟩:=I.cell y c' e
        exact ⟨w2,z2.sameBut hs hcc⟩
    · obtain ⟨e,n,ne,nf,d⟩:=I.pin p hp
      refine ⟨(hs.2 p.1 ?_).trans e,n,ne,nf,d⟩
      intro q
      rw [q,hoc] at e
      have q' : oc = p.2:=Option.some.inj e
      exact d w' (by rw [← q']; exact hocd)
theorem store_ok {M : Model} {A : Around} {E : Value→Shared→Prop} {i : Nat} {x : Str} {v : V} {u : Value} {Q : Unit→Shared→Prop} (I : Inv X pins σ H s) (hN : X.N.Nodup) (hi : X.N[i]? = some x) (hx : Loc X.env.scope x) (r : RelV v u)
    (h : ∀ s',Inv X pins (σ.set i (some v)) H s'→Q () s') (hf : X.fn x = true∨X.env.scope.names.lookup x = some .local:=by first | exact .inl rfl | exact .inr rfl | assumption) : wpAny M A (storeName X.env x u) Q E s :=
  store_ok2 I hN hi hx r (fun s' I' _=>h s' I') hf
theorem Inv.call' {s' : Shared} {ch : List Addr} (I : Inv X pins σ H s) (ho : s'.os = s.os) (u : Un (frs X.stack) ch H H' s.heap s'.heap) (hok : HOk X.prog X.w H' s'.heap) (hg : AllBare s'.gens)
    (hch : ∀ b ∈ ch,(b ∈ X.ex∨X.s₀.heap.objs.size ≤ b)∧b ≠ X.env.locals∧(∀ x c,X.env.cells.lookup x = some c→c ≠ b)∧∀ p ∈ X.pn++pins,p.1 ≠ b) : Inv X pins σ H' s':=by
  obtain ⟨h',g',d',t',o'⟩:=s'
  have e : o' = s.os:=ho
  subst e
  exact I.call (g':=g') (t':=t') (d':=d') u hok hg hch
end
abbrev XK:=Value→Option Addr→Hp→Prop
abbrev St:=List (Option V)
abbrev VK:=V→Hp→Prop
abbrev TE:=St→Hp→VK→Prop
abbrev TT:=St→Hp→(Bool→Hp→Prop)→Prop
abbrev TA:=St→Hp→(List V→Hp→Prop)→Prop
structure Ends where
  nx : St→Hp→Prop
  rt : VK
  bk : St→Hp→Prop:=fun _ _=>False
  ct : St→Hp→Prop:=fun _ _=>False
abbrev TS:=Ends→St→Hp→Prop
def EP (X : Cx) (pins : List (Addr × Obj)) (σ : St) (Q : VK) (u : Value) (s' : Shared) : Prop:=∃ v H',Inv X pins σ H' s'∧RelV v u∧Q v H'
def TP (X : Cx) (pins : List (Addr × Obj)) (σ : St) (Q : Bool→Hp→Prop) (b : Bool) (s' : Shared) : Prop:=∃ H',Inv X pins σ H' s'∧Q b H'
def AP (X : Cx) (pins : List (Addr × Obj)) (σ : St) (Q : List V→Hp→Prop) (us : List Value) (s' : Shared) : Prop:=∃ vs H',Inv X pins σ H' s'∧Vals vs us∧Q vs H'
def SP (X : Cx) (pins : List (Addr × Obj)) (D : Ends) (f : Flow) (s' : Shared) : Prop :=
  match f with
  | .next=>∃ σ' H',Inv X pins σ' H' s'∧D.nx σ' H'
  | .brk=>∃ σ' H',Inv X pins σ' H' s'∧D.bk σ' H'
  | .cont=>∃ σ' H',Inv X pins σ' H' s'∧D.ct σ' H'
  | .ret u=>∃ v σ' H',Inv X pins σ' H' s'∧RelV v u∧D.rt v H'
def PE (X : Cx) (e : Expr) (t : TE) : Prop :=
  ∀ (pins : List (Addr × Obj)) (s : Shared) (σ : St) (H : Hp) (Q : VK),Inv X pins σ H s→t σ H Q→wpAny (model X.prog X.w) X.A (eval e X.env) (EP X pins σ Q) X.xe s
def PT (X : Cx) (e : Expr) (t : TT) : Prop :=
  ∀ (pins : List (Addr × Obj)) (s : Shared) (σ : St) (H : Hp) (Q : Bool→Hp→Prop),Inv X pins σ H s→t σ H Q→wpAny (model X.prog X.w) X.A (isTrue e X.env (eval e X.env)) (TP X pins σ Q) X.xe s
def PW (X : Cx) (e : Expr) (t : TT) : Prop :=
  ∀ (whole : Sem Value) (pins : List (Addr × Obj)) (s : Shared) (σ : St) (H : Hp) (Q : Bool→Hp→Prop),Inv X pins σ H s→t σ H Q→wpAny (model X.prog X.w) X.A (isTrue e X.env whole) (TP X pins σ Q) X.xe s
theorem PW.pt {X : Cx} {e : Expr} {t : TT} (h : PW X e t) : PT X e t:=h _
def PA (X : Cx) (es : List Expr) (t : TA) : Prop :=
  ∀ (pos : Pos) (pins : List (Addr × Obj)) (s : Shared) (σ : St) (H : Hp) (Q : List V→Hp→Prop),Inv X pins σ H s→t σ H Q→wpAny (model X.prog X.w) X.A (spliced (backTo pos (starEach es X.env))) (AP X pins σ Q) X.xe s
def PS (X : Cx) (st : Stmt) (t : TS) : Prop :=
  ∀ (pins : List (Addr × Obj)) (s : Shared) (σ : St) (H : Hp) (D : Ends),Inv X pins σ H s→t D σ H→wpAny (model X.prog X.w) X.A (exec st X.env) (SP X pins D) X.xe s
def PSs (X : Cx) (st : List Stmt) (t : TS) : Prop :=
  ∀ (pins : List (Addr × Obj)) (s : Shared) (σ : St) (H : Hp) (D : Ends),Inv X pins σ H s→t D σ H→wpAny (model X.prog X.w) X.A (execs st X.env) (SP X pins D) X.xe s
theorem thn {α : Type} {t : Sem α} {Q Q' : α→Shared→Prop} {M : Model} {A : Around} {E : Value→Shared→Prop} {s : Shared} (h : wpAny M A t Q E s) (hQ : ∀ a s,Q a s→Q' a s) : wpAny M A t Q' E s:=wpAny_mono h hQ fun _ _ x=>x
end L2
namespace L2
open PySem PySem.Spec PyProof.Rows
section
variable {X : Cx}
theorem bin {a b : Expr} {ta tb : TE} (ha : PE X a ta) (hb : PE X b tb) {pins : List (Addr × Obj)} {s : Shared} {σ : St} {H : Hp} {R : V→V→Hp→Prop} (I : Inv X pins σ H s) (h : ta σ H fun x H1=>tb σ H1 fun y H2=>R x y H2)
    {α : Type} {Q : α→Shared→Prop} {f : Value→Value→Sem α}
    (hf : ∀ v u s2 x y H2,Inv X pins σ H2 s2→RelV x v→RelV y u→R x y H2→wpAny (model X.prog X.w) X.A (f v u) Q X.xe s2) :
    wpAny (model X.prog X.w) X.A (eval a X.env) (fun v s₁=>wpAny (model X.prog X.w) X.A (eval b X.env) (fun u s₂=>wpAny (model X.prog X.w) X.A (f v u) Q X.xe s₂) X.xe s₁) X.xe s:=by
  refine thn (ha pins s σ H _ I h) fun v s1 ⟨x,H1,I1,r1,q1⟩=>?_
  refine thn (hb pins s1 σ H1 _ I1 q1) fun u s2 ⟨y,H2,I2,r2,q2⟩=>?_
  exact hf v u s2 x y H2 I2 r1 r2 q2
def tVar (i : Nat) : TE:=fun σ H Q=>∃ v,σ[i]? = some (some v)∧Q v H
def tC (v : V) : TE:=fun _ H Q=>Q v H
theorem pe_var {i : Nat} {x : Str} {pos : Pos} (hN : X.N[i]? = some x) (hv : Vis X.env.scope x) (hd : (x == ("__debug__" : Str)) = false:=by decide) (hcd : (x == ("__classdict__" : Str)) = false:=by decide) : PE X (.Name x pos) (tVar i):=by
  intro pins s σ H Q I h
  obtain ⟨v,e,h⟩:=h
  obtain ⟨m,hn,hl⟩:=I.loc
  obtain ⟨u,r,l⟩:=hl i x v hN e hv
  have fin : EP X pins σ Q u s:=⟨v,H,I,r,h⟩
  rcases l with ⟨hk,hm⟩ | ⟨hk,c,hc,hcell⟩
  · exact wpAny_Name (wpAny_loadName_local I.ok.kind hk hn hm fin) hd
  · rcases hk with hk | hk
    · exact wpAny_Name (wpAny_loadName_cell I.ok.kind hk hc hcell fin) hd
    · exact wpAny_Name (wpAny_loadName_free I.ok.kind hk hc hcell fin hcd) hd
theorem pe_int {i j pos} : PE X (.Constant (.int i) j pos) (tC (.int i)):=fun _ _ _ H _ I h=>wpAny_Constant_int ⟨.int i,H,I.tok _,⟨_,rfl⟩,h⟩
theorem pe_bl {b j pos} : PE X (.Constant (.bool b) j pos) (tC (.bl b)):=fun _ _ _ H _ I h=>Constant_bool ⟨.bl b,H,I,rfl,h⟩
theorem pe_non {j pos} : PE X (.Constant .none j pos) (tC .non):=fun _ _ _ H _ I h=>Constant_none ⟨.non,H,I,rfl,h⟩
theorem pe_str {x j pos} : PE X (.Constant (.str x) j pos) (tC (.str x)):=fun _ _ _ H _ I h=>Calls.Constant_str ⟨.str x,H,I.tok _,⟨_,rfl⟩,h⟩
def Gl (X : Cx) (x : Str) : Prop:=X.env.kindOf x = some .globalImplicit
theorem ld_glob {E : Value→Shared→Prop} {pins : List (Addr × Obj)} {s : Shared} {σ : St} {H : Hp} {x : Str} {u : Value} {pos : Pos} {Q : Value→Shared→Prop} (I : Inv X pins σ H s) (hg : Gl X x) (hm : X.mg x = some u) (h : Q u s)
    (hd : (x == ("__debug__" : Str)) = false:=by decide) : wpAny (model X.prog X.w) X.A (eval (.Name x pos) X.env) Q E s :=
  Calls.Name_function_global I.ok.kind hg (Calls.loadGlobal_global (by rw [I.ok.glob]; exact I.mod.glob.keeps I.bk) hm h) hd
theorem ld_blt {E : Value→Shared→Prop} {pins : List (Addr × Obj)} {s : Shared} {σ : St} {H : Hp} {x : Str} {u : Value} {pos : Pos} {Q : Value→Shared→Prop} (I : Inv X pins σ H s) (hg : Gl X x) (hm : X.mg x = none) (hv : bootBuiltins x = some u) (h : Q u s)
    (hn : x ≠ "__name__":=by decide) (hd : (x == ("__debug__" : Str)) = false:=by decide) : wpAny (model X.prog X.w) X.A (eval (.Name x pos) X.env) Q E s:=by
  obtain ⟨mb,h1,h2⟩:=I.mod.blt
  exact Calls.Name_function_global I.ok.kind hg (Calls.loadGlobal_builtin (by rw [I.ok.glob]; exact I.mod.glob.keeps I.bk) hm (by rw [I.ok.blt]; exact h1.keeps I.bk) ((h2 x hn).trans hv) h) hd
theorem pe_glob {x : Str} {v : V} {u : Value} {pos : Pos} (hg : Gl X x) (hm : X.mg x = some u) (r : RelV v u) (hd : (x == ("__debug__" : Str)) = false:=by decide) : PE X (.Name x pos) (tC v) :=
  fun _ _ _ H _ I h=>ld_glob I hg hm ⟨v,H,I,r,h⟩ hd
theorem pe_bltn {x : Str} {v : V} {u : Value} {pos : Pos} (hg : Gl X x) (hm : X.mg x = none) (hv : bootBuiltins x = some u) (r : RelV v u) (hn : x ≠ "__name__":=by decide) (hd : (x == ("__debug__" : Str)) = false:=by decide) : PE X (.Name x pos) (tC v) :=
  fun _ _ _ H _ I h=>ld_blt I hg hm hv ⟨v,H,I,r,h⟩ hn hd
variable {a b : Expr} {ta tb : TE} {pos : Pos}
def PC (X : Cx) (op : CmpOp) (a b : Expr) (t : TE) : Prop :=
  ∀ (pins : List (Addr × Obj)) (s : Shared) (σ : St) (H : Hp) (Q : VK),Inv X pins σ H s→t σ H Q →
    wpAny (model X.prog X.w) X.A (eval a X.env) (fun v s₁=>wpAny (model X.prog X.w) X.A (eval b X.env) (fun u s₂=>wpAny (model X.prog X.w) X.A (compareOp op v u) (EP X pins σ Q) X.xe s₂) X.xe s₁) X.xe s
theorem nobehind (b : Expr) {op : CmpOp} (h : op ≠ .In) (h2 : op ≠ .NotIn) : behindInMarks op b = false:=by
  have e1 : (op == CmpOp.In) = false:=by cases op <;> first | rfl | exact absurd rfl h
  have e2 : (op == CmpOp.NotIn) = false:=by cases op <;> first | rfl | exact absurd rfl h2
  cases b <;> simp [behindInMarks,e1,e2]
def tB (t : TE) : TT:=fun σ H Q=>t σ H fun x H1=>∃ c,x = .bl c∧Q c H1
theorem pe_cmp {op : CmpOp} {t : TE} (h : PC X op a b t) (h1 : behindInMarks op b = false:=by first | exact nobehind _ (by decide) (by decide) | rfl) : PE X (.Compare a [op] [b] pos) t:=fun pins s σ H Q I hw=>wpAny_Compare1 (h pins s σ H Q I hw) h1
theorem pt_cmp {op : CmpOp} {t : TE} (h : PC X op a b t) (h1 : behindInMarks op b = false:=by first | exact nobehind _ (by decide) (by decide) | rfl) : PT X (.Compare a [op] [b] pos) (tB t):=by
  intro pins s σ H Q I hw
  refine wpAny_isTrue_Compare1 (thn (h pins s σ H _ I hw) fun v s1 h1=>thn h1 fun u s2 h2=>thn h2 fun c s3 ⟨x,H1,I1,r1,q1⟩=>?_) h1
  obtain ⟨d,rfl,q⟩:=q1
  cases r1
  exact wpAny_truthy_bool ⟨H1,I1,q⟩
variable {tA tB' : TT} {rest : List Expr}
def tAnd (t u : TT) : TT:=fun σ H Q=>t σ H fun c H1=>if c = true then u σ H1 Q else Q false H1
def tOr (t u : TT) : TT:=fun σ H Q=>t σ H fun c H1=>if c = true then Q true H1 else u σ H1 Q
def tNot (t : TT) : TT:=fun σ H Q=>t σ H fun c H1=>Q (!c) H1
theorem pw_and1 (ha : PT X a tA) : PW X (.BoolOp .And [a] pos) tA:=by
  intro wh pins s σ H Q I h
  refine isTrue_and (thn (ha pins s σ H Q I h) fun c s1 e=>?_)
  cases c with
  | true=>exact isTrue_and_nil e
  | false=>exact e
theorem pw_or1 (ha : PT X a tA) : PW X (.BoolOp .Or [a] pos) tA:=by
  intro wh pins s σ H Q I h
  refine isTrue_or (thn (ha pins s σ H Q I h) fun c s1 e=>?_)
  cases c with
  | false=>exact isTrue_or_nil e
  | true=>exact e
theorem pw_and (ha : PT X a tA) (hb : PW X (.BoolOp .And (b::rest) pos) tB') : PW X (.BoolOp .And (a::b::rest) pos) (tAnd tA tB'):=by
  intro wh pins s σ H Q I h
  refine isTrue_and (thn (ha pins s σ H _ I h) fun c s1 ⟨H1,I1,q1⟩=>?_)
  cases c with
  | true=>exact hb wh pins s1 σ H1 Q I1 q1
  | false=>exact ⟨H1,I1,q1⟩
theorem pw_or (ha : PT X a tA) (hb : PW X (.BoolOp .Or (b::rest) pos) tB') : PW X (.BoolOp .Or (a::b::rest) pos) (tOr tA tB'):=by
  intro wh pins s σ H Q I h
  refine isTrue_or (thn (ha pins s σ H _ I h) fun c s1 ⟨H1,I1,q1⟩=>?_)
  cases c with
  | true=>exact ⟨H1,I1,q1⟩
  | false=>exact hb wh pins s1 σ H1 Q I1 q1
theorem pt_not (ha : PT X a tA) : PT X (.UnaryOp .Not a pos) (tNot tA):=by
  intro pins s σ H Q I h
  exact isTrue_not (ha pins s σ H (fun c H1=>Q (!c) H1) I h)
def tAndV (ta tb : TE) : TE:=fun σ H Q=>ta σ H fun x H1=>∃ c,x = .bl c∧if c = true then tb σ H1 Q else Q (.bl false) H1
def tOrV (ta tb : TE) : TE:=fun σ H Q=>ta σ H fun x H1=>∃ c,x = .bl c∧if c = true then Q (.bl true) H1 else tb σ H1 Q
def tNotV (ta : TE) : TE:=fun σ H Q=>ta σ H fun x H1=>∃ c,x = .bl c∧Q (.bl (!c)) H1
theorem pe_one {op} {t : TE} (h : PE X a t) : PE X (.BoolOp op [a] pos) t:=fun pins s σ H Q I hw=>BoolOp_one (h pins s σ H Q I hw)
theorem pe_and (ha : PE X a ta) (hb : PE X (.BoolOp .And (b::rest) pos) tb) : PE X (.BoolOp .And (a::b::rest) pos) (tAndV ta tb):=by
  intro pins s σ H Q I h
  refine BoolOp_and (thn (ha pins s σ H _ I h) fun v s1 ⟨x,H1,I1,r1,q1⟩=>?_)
  obtain ⟨c,rfl,q1⟩:=q1
  cases r1
  refine wpAny_truthy_bool ?_
  cases c with
  | true=>exact hb pins s1 σ H1 Q I1 q1
  | false=>exact ⟨.bl false,H1,I1,rfl,q1⟩
theorem pe_or (ha : PE X a ta) (hb : PE X (.BoolOp .Or (b::rest) pos) tb) : PE X (.BoolOp .Or (a::b::rest) pos) (tOrV ta tb):=by
  intro pins s σ H Q I h
  refine BoolOp_or (thn (ha pins s σ H _ I h) fun v s1 ⟨x,H1,I1,r1,q1⟩=>?_)
  obtain ⟨c,rfl,q1⟩:=q1
  cases r1
  refine wpAny_truthy_bool ?_
  cases c with
  | false=>exact hb pins s1 σ H1 Q I1 q1
  | true=>exact ⟨.bl true,H1,I1,rfl,q1⟩
theorem pe_not (ha : PE X a ta) : PE X (.UnaryOp .Not a pos) (tNotV ta):=by
  intro pins s σ H Q I h
  refine UnaryOp_ (thn (ha pins s σ H _ I h) fun v s1 ⟨x,H1,I1,r1,q1⟩=>?_)
  obtain ⟨c,rfl,q1⟩:=q1
  cases r1
  exact not_of (wpAny_truthy_bool ⟨.bl (!c),H1,I1,rfl,q1⟩)
def tIf (t : TT) (ta tb : TE) : TE:=fun σ H Q=>t σ H fun c H1=>if c = true then ta σ H1 Q else tb σ H1 Q
theorem pe_ifExp {c : Expr} (hc : PT X c tA) (ha : PE X a ta) (hb : PE X b tb) : PE X (.IfExp c a b pos) (tIf tA ta tb):=by
  intro pins s σ H Q I h
  refine wpAny_IfExp (thn (hc pins s σ H _ I h) fun d s1 ⟨H1,I1,q1⟩=>?_)
  cases d with
  | true=>exact ha pins s1 σ H1 Q I1 q1
  | false=>exact hb pins s1 σ H1 Q I1 q1
end
end L2
namespace L2
open PySem PySem.Spec PyProof.Rows
def SqL (K : PySem.W.Frag) (H : Hp) (a : Addr) (xs : List V) : Prop :=
  Rd H a (.lst xs) ∨
    ∃ (o : Obj) (its : Array Value) (n : Nat),K.lookup a = some o∧o.cls = .type "list"∧o.dict = none∧o.data = .seq its n∧its.size ≤ sizeLine∧Vals xs its.toList
def SqT (K : PySem.W.Frag) (H : Hp) (a : Addr) (xs : List V) : Prop :=
  Rd H a (.tup xs) ∨
    ∃ (o : Obj) (its : Array Value) (n : Nat),K.lookup a = some o∧o.cls = .type "tuple"∧o.data = .seq its n∧its.size ≤ sizeLine∧Vals xs its.toList
def absV : Value→Option V
  | .none=>some .non
  | .bool b=>some (.bl b)
  | .int i _=>some (.int i)
  | .str x _=>some (.str x)
  | .bytes b _=>some (.byt b)
  | .float b _=>some (.flt b)
  | .ref a=>some (.ref a)
  | .type n=>some (.ty n)
  | _=>none
theorem RelV.abs {x : V} {u : Value} (r : RelV x u) : absV u = some x:=by
  cases x with
  | non=>cases r; rfl
  | bl _=>cases r; rfl
  | int _=>obtain ⟨t,rfl⟩:=r; rfl
  | str _=>obtain ⟨t,rfl⟩:=r; rfl
  | byt _=>obtain ⟨t,rfl⟩:=r; rfl
  | flt _=>obtain ⟨t,rfl⟩:=r; rfl
  | ref _=>cases r; rfl
  | ty _=>cases r; rfl
theorem RelV.inj {x y : V} {u : Value} (r : RelV x u) (q : RelV y u) : x = y:=Option.some.inj (r.abs.symm.trans q.abs)
theorem Vals.inj : ∀ {xs ys : List V} {us : List Value},Vals xs us→Vals ys us→xs = ys
  | _,_,_,.nil,.nil=>rfl
  | _,_,_,.cons r t,.cons r' t'=>by rw [r.inj r',Vals.inj t t']
section
variable {X : Cx} {pins : List (Addr × Obj)} {σ : St} {H : Hp} {s : Shared} {a : Addr} {xs ys : List V}
theorem SqL.of {K : PySem.W.Frag} (h : H a = some (.lst xs)) : SqL K H a xs:=.inl (.inl h)
theorem SqT.of {K : PySem.W.Frag} (h : H a = some (.tup xs)) : SqT K H a xs:=.inl (.inl h)
theorem Inv.list (I : Inv X pins σ H s) (h : SqL X.K H a xs) : ∃ its : List Value,Vals xs its∧PlainL s.heap a its.toArray∧xs.length ≤ sizeLine:=by
  rcases h with h | ⟨o,its,n,hk,hc,hd,hs,hz,r⟩
  · obtain ⟨z,its,n,r,e⟩:=h.ok I.hok
    exact ⟨its,r,⟨_,n,e,rfl,rfl,rfl⟩,z⟩
  · refine ⟨its.toList,r,⟨o,n,I.kIn a o hk,hc,hd,by simpa using hs⟩,?_⟩
    have e:=r.length
    simp only [Array.length_toList] at e
    omega
theorem Inv.tuple (I : Inv X pins σ H s) (h : SqT X.K H a xs) : ∃ its : List Value,Vals xs its∧IsTup s.heap a its.toArray∧xs.length ≤ sizeLine:=by
  rcases h with h | ⟨o,its,n,hk,hc,hs,hz,r⟩
  · obtain ⟨z,its,r,p⟩:=h.ok I.hok
    exact ⟨its,r,p,z⟩
  · refine ⟨its.toList,r,⟨o,I.kIn a o hk,hc,n,by simpa using hs⟩,?_⟩
    have e:=r.length
    simp only [Array.length_toList] at e
    omega
theorem Inv.list_inj (I : Inv X pins σ H s) (h : SqL X.K H a xs) (h' : SqL X.K H a ys) : xs = ys:=by
  obtain ⟨its,r,⟨o,n,e,_,_,d⟩,_⟩:=I.list h
  obtain ⟨its',r',⟨o',n',e',_,_,d'⟩,_⟩:=I.list h'
  rw [e] at e'; cases e'
  rw [d] at d'
  injection d' with d1 _
  have : its = its':=by simpa using congrArg Array.toList d1
  subst this
  exact r.inj r'
theorem Inv.tuple_inj (I : Inv X pins σ H s) (h : SqT X.K H a xs) (h' : SqT X.K H a ys) : xs = ys:=by
  obtain ⟨its,r,⟨o,e,_,n,d⟩,_⟩:=I.tuple h
  obtain ⟨its',r',⟨o',e',_,n',d'⟩,_⟩:=I.tuple h'
  rw [e] at e'; cases e'
  rw [d] at d'
  injection d' with d1 _
  have : its = its':=by simpa using congrArg Array.toList d1
  subst this
  exact r.inj r'
end
abbrev Cx.wish (X : Cx) (E : Value→Shared→Prop) : Cx:={ X with xe:=E }
abbrev Cx.nox (X : Cx) : Cx:=X.wish fun _ _=>False
theorem Cx.Ok.wish {X : Cx} (ok : X.Ok) (E : Value→Shared→Prop) : (X.wish E).Ok :=
  ⟨ok.mod,ok.kind,ok.glob,ok.blt,ok.above,ok.inj,ok.has,ok.cab,ok.hd,ok.frames,ok.stk,ok.exf,ok.bs,ok.bsz,ok.noex,ok.exfs,ok.funs,ok.frf⟩
theorem Cx.Ok.unwish {X : Cx} {E : Value→Shared→Prop} (ok : (X.wish E).Ok) : X.Ok :=
  ⟨ok.mod,ok.kind,ok.glob,ok.blt,ok.above,ok.inj,ok.has,ok.cab,ok.hd,ok.frames,ok.stk,ok.exf,ok.bs,ok.bsz,ok.noex,ok.exfs,ok.funs,ok.frf⟩
section
variable {X : Cx} {pins : List (Addr × Obj)} {σ : St} {H : Hp} {s : Shared} {E : Value→Shared→Prop}
theorem Inv.wish (I : Inv X pins σ H s) (E : Value→Shared→Prop) : Inv (X.wish E) pins σ H s:=⟨I.ok.wish E,I.os,I.bare,I.base,I.loc,I.cell,I.free,I.freeC,I.pin,I.hok,I.len⟩
theorem Inv.unwish (I : Inv (X.wish E) pins σ H s) : Inv X pins σ H s:=⟨I.ok.unwish,I.os,I.bare,I.base,I.loc,I.cell,I.free,I.freeC,I.pin,I.hok,I.len⟩
theorem SP.unwish {D : Ends} {f : Flow} {s' : Shared} (h : SP (X.wish E) pins D f s') : SP X pins D f s':=by
  cases f with
  | next=>obtain ⟨σ',H',I,q⟩:=h; exact ⟨σ',H',I.unwish,q⟩
  | brk=>obtain ⟨σ',H',I,q⟩:=h; exact ⟨σ',H',I.unwish,q⟩
  | cont=>obtain ⟨σ',H',I,q⟩:=h; exact ⟨σ',H',I.unwish,q⟩
  | ret u=>obtain ⟨v,σ',H',I,r,q⟩:=h; exact ⟨v,σ',H',I.unwish,r,q⟩
theorem PE.nox {e : Expr} {t : TE} (h : PE X.nox e t) : PE X e t:=fun pins s σ H Q I hw =>
  wpAny_mono (h pins s σ H Q (I.wish _) hw) (fun _ _ ⟨v,H',I',r,q⟩=>⟨v,H',I'.unwish,r,q⟩) fun _ _ z=>False.elim z
theorem PT.nox {e : Expr} {t : TT} (h : PT X.nox e t) : PT X e t:=fun pins s σ H Q I hw =>
  wpAny_mono (h pins s σ H Q (I.wish _) hw) (fun _ _ ⟨H',I',q⟩=>⟨H',I'.unwish,q⟩) fun _ _ z=>False.elim z
theorem PSs.nox {st : List Stmt} {t : TS} (h : PSs X.nox st t) : PSs X st t:=fun pins s σ H D I hw =>
  wpAny_mono (h pins s σ H D (I.wish _) hw) (fun _ _ q=>q.unwish) fun _ _ z=>False.elim z
end
section
variable {X : Cx} {st : Stmt} {rest : List Stmt} {t u : TS} {e : Expr} {te : TE} {pos : Pos}
def tNext : TS:=fun D σ H=>D.nx σ H
def tSeq (t u : TS) : TS:=fun D σ H=>t { D with nx:=u D } σ H
theorem pss_nil : PSs X [] tNext:=fun _ _ σ H _ I h=>wpAny_execs_nil ⟨σ,H,I,h⟩
theorem pss_cons (h1 : PS X st t) (h2 : PSs X rest u) : PSs X (st::rest) (tSeq t u):=by
  intro pins s σ H D I h
  refine wpAny_execs_cons (thn (h1 pins s σ H { D with nx:=u D } I h) fun f s1 q=>?_)
  cases f with
  | next =>
    obtain ⟨σ',H',I',q⟩:=q
    exact h2 pins s1 σ' H' D I' q
  | ret v=>exact q
  | brk=>exact q
  | cont=>exact q
def tBreak : TS:=fun D σ H=>D.bk σ H
def tCont : TS:=fun D σ H=>D.ct σ H
theorem ps_pass : PS X (.Pass pos) tNext:=fun _ _ σ H _ I h=>wpAny_Pass ⟨σ,H,I,h⟩
theorem ps_break : PS X (.Break pos) tBreak:=fun _ _ σ H _ I h=>wpAny_Break ⟨σ,H,I,h⟩
theorem ps_continue : PS X (.Continue pos) tCont:=fun _ _ σ H _ I h=>wpAny_Continue ⟨σ,H,I,h⟩
theorem Inv.quiet {pins : List (Addr × Obj)} {σ : St} {H : Hp} {s : Shared} (I : Inv X pins σ H s) : interactive X.env = false:=by simp [interactive,I.ok.kind]
theorem ps_doc {x j pos pos'} : PS X (.Expr (.Constant (.str x) j pos) pos') tNext:=fun _ s σ H _ I h=>wpAny_Expr (Calls.Constant_str (show SP X _ _ .next { s with toks:=s.toks + 1 } from ⟨σ,H,I.tok _,h⟩)) I.quiet
def tDrop (te : TE) : TS:=fun D σ H=>te σ H fun _ H1=>D.nx σ H1
theorem ps_expr (he : PE X e te) (hs : swapsWith e none pos.line X.env = pure false:=by rfl) : PS X (.Expr e pos) (tDrop te):=by
  intro pins s σ H D I h
  exact wpAny_Expr_any (thn (he pins s σ H _ I h) fun v s1 ⟨x,H1,I1,r1,q1⟩=>⟨σ,H1,I1,q1⟩) I.quiet hs
def tRet (te : TE) : TS:=fun D σ H=>te σ H D.rt
theorem ps_ret (he : PE X e te) : PS X (.Return (some e) pos) (tRet te):=by
  intro pins s σ H D I h
  exact wpAny_Return_some (thn (he pins s σ H _ I h) fun v s1 ⟨x,H1,I1,r1,q1⟩=>⟨x,σ,H1,I1,r1,q1⟩)
def tRetN : TS:=fun D _ H=>D.rt .non H
theorem ps_retN : PS X (.Return none pos) tRetN:=fun _ _ σ H _ I h=>wpAny_Return_none ⟨.non,σ,H,I,rfl,h⟩
def tIfS (c : TT) (t u : TS) : TS:=fun D σ H=>c σ H fun b H1=>if b = true then t D σ H1 else u D σ H1
theorem ps_if {c : Expr} {a b : List Stmt} {tc : TT} (hc : PT X c tc) (ha : PSs X a t) (hb : PSs X b u) : PS X (.If c a b pos) (tIfS tc t u):=by
  intro pins s σ H D I h
  refine wpAny_If (thn (hc pins s σ H _ I h) fun d s1 ⟨H1,I1,q1⟩=>?_)
  cases d with
  | true=>exact ha pins s1 σ H1 D I1 q1
  | false=>exact hb pins s1 σ H1 D I1 q1
end
abbrev TG:=V→St→Hp→(St→Hp→Prop)→Prop
abbrev TGs:=List V→St→Hp→(St→Hp→Prop)→Prop
def PG (X : Cx) (target : Expr) (t : TG) : Prop :=
  ∀ (pins : List (Addr × Obj)) (s : Shared) (σ : St) (H : Hp) (v : V) (u : Value) (Q : St→Hp→Prop),Inv X pins σ H s→RelV v u→t v σ H Q →
    wpAny (model X.prog X.w) X.A (assign target X.env u) (fun _ s'=>∃ σ' H',Inv X pins σ' H' s'∧Q σ' H') X.xe s
def PGs (X : Cx) (ts : List Expr) (t : TGs) : Prop :=
  ∀ (pins : List (Addr × Obj)) (s : Shared) (σ : St) (H : Hp) (vs : List V) (us : List Value) (Q : St→Hp→Prop),Inv X pins σ H s→Vals vs us→t vs σ H Q →
    wpAny (model X.prog X.w) X.A (assignInOrder ((assignEach ts X.env).map (·.2)) us) (fun _ s'=>∃ σ' H',Inv X pins σ' H' s'∧Q σ' H') X.xe s
abbrev TSet:=V→V→V→Hp→(Hp→Prop)→Prop
def PSet (X : Cx) (t : TSet) : Prop :=
  ∀ (pins : List (Addr × Obj)) (s : Shared) (σ : St) (H : Hp) (o i v : V) (ov iv u : Value) (Q : Hp→Prop),Inv X pins σ H s→RelV o ov→RelV i iv→RelV v u→t o i v H Q →
    wpAny (model X.prog X.w) X.A (setItem ov iv u) (fun _ s'=>∃ H',Inv X pins σ H' s'∧Q H') X.xe s
abbrev TIp:=V→V→Hp→VK→Prop
def PIp (X : Cx) (op : Operator) (t : TIp) : Prop :=
  ∀ (pins : List (Addr × Obj)) (s : Shared) (σ : St) (H : Hp) (x y : V) (v u : Value) (Q : VK),Inv X pins σ H s→RelV x v→RelV y u→t x y H Q →
    wpAny (model X.prog X.w) X.A (inplaceOp op v u) (EP X pins σ Q) X.xe s
section
variable {X : Cx} {pos : Pos}
def gName (i : Nat) : TG:=fun v σ H Q=>Q (σ.set i (some v)) H
theorem pg_name {i : Nat} {x : Str} (hN : X.N.Nodup) (hi : X.N[i]? = some x) (hx : Loc X.env.scope x) (hf : X.fn x = true∨X.env.scope.names.lookup x = some .local:=by first | exact .inl rfl | exact .inr rfl | assumption) : PG X (.Name x pos) (gName i):=by
  intro pins s σ H v u Q I r h
  exact wpAny_assign_Name (store_ok I hN hi hx r (fun s' I'=>⟨_,H,I',h⟩) hf)
def gNil : TGs:=fun vs σ H Q=>vs = []∧Q σ H
def gCons (t : TG) (u : TGs) : TGs:=fun vs σ H Q=>∃ v r,vs = v::r∧t v σ H fun σ' H'=>u r σ' H' Q
theorem pgs_nil : PGs X [] gNil:=by
  intro pins s σ H vs us Q I r h
  obtain ⟨e,h⟩:=h
  subst e
  cases r
  exact assignInOrder_nil ⟨σ,H,I,h⟩
theorem pgs_cons {e : Expr} {es : List Expr} {t : TG} {u : TGs} (h1 : PG X e t) (h2 : PGs X es u)
    (hs : (assignEach (e::es) X.env).map (·.2) = assign e X.env::(assignEach es X.env).map (·.2):=by rfl) : PGs X (e::es) (gCons t u):=by
  intro pins s σ H vs us Q I r h
  obtain ⟨v,vr,e1,h⟩:=h
  subst e1
  cases r with
  | cons r rr =>
    rw [hs]
    refine assignInOrder_cons (thn (h1 pins s σ H _ _ _ I r h) fun _ s1 ⟨σ1,H1,I1,q1⟩=>?_)
    exact h2 pins s1 σ1 H1 _ _ Q I1 rr q1
def gTup (K : PySem.W.Frag) (n : Nat) (t : TGs) : TG:=fun v σ H Q=>∃ a xs,v = .ref a∧SqT K H a xs∧xs.length = n∧t xs σ H Q
theorem pg_tup {es : List Expr} {k : Nat} {t : TGs} {n : Nat} (hc : X.calm = true) (h : PGs X es t)
    (hn : (assignEach es X.env).length = n:=by rfl) (hst : (assignEach es X.env).findIdx? (·.1) = none:=by rfl) : PG X (.Tuple es k pos) (gTup X.K n t):=by
  intro pins s σ H v u Q I r hw
  obtain ⟨a,xs,e1,hq,hl,hw⟩:=hw
  subst e1
  cases r
  obtain ⟨its,rv,ht,hz⟩:=I.tuple hq
  refine assign_Tuple_tuple (I.ok.hd hc) ht (by simp [hn,← hl,rv.length]) hst fun h' hx=>?_
  have I1 : Inv X pins σ H { s with heap:=h' }:=I.kept (t':=s.toks) fun b o e=>hx b o (Nat.ne_of_lt (Heap.lt_size e)) e
  exact h pins _ σ H xs _ Q I1 (by simpa using rv) hw
def gSub (to ti : TE) (t : TSet) : TG:=fun v σ H Q=>to σ H fun o H1=>ti σ H1 fun i H2=>t o i v H2 fun H3=>Q σ H3
theorem pg_sub {o i : Expr} {to ti : TE} {t : TSet} (ho : PE X o to) (hi : PE X i ti) (hs : PSet X t)
    (ha : ∀ v,assign (.Subscript o i pos) X.env v = (do
      let ov ← holding [v] (eval o X.env)
      let iv ← holding [v,ov] (eval i X.env)
      standAt pos
      holding [v,ov,iv] (setItem ov iv v)
      release [v,ov,iv] []):=by intro _; rfl) : PG X (.Subscript o i pos) (gSub to ti t):=by
  intro pins s σ H v u Q I r h
  rw [ha]
  refine wpAny_bind (wpAny_holding (thn (ho pins s σ H _ I h) fun ov s1 ⟨x,H1,I1,r1,q1⟩=>?_))
  refine wpAny_bind (wpAny_holding (thn (hi pins s1 σ H1 _ I1 q1) fun iv s2 ⟨y,H2,I2,r2,q2⟩=>?_))
  refine wpAny_bind (wpAny_standAt (wpAny_bind (wpAny_holding (thn (hs pins s2 σ H2 x y v ov iv u _ I2 r1 r2 r q2) fun _ s3 ⟨H3,I3,q3⟩=>?_))))
  exact wpAny_release ⟨σ,H3,I3,q3⟩
def tAsg (te : TE) (g : TG) : TS:=fun D σ H=>te σ H fun x H1=>g x σ H1 D.nx
theorem ps_asg {tg e : Expr} {te : TE} {g : TG} (he : PE X e te) (hg : PG X tg g) (hs : swapsWithSole [tg] e pos.line X.env = pure false:=by rfl) (hw : swappedStores [tg] e X.env = pure none:=by rfl)
    (h1 : (assignEach [tg] X.env).map (·.2) = [assign tg X.env]:=by rfl) : PS X (.Assign [tg] e pos) (tAsg te g):=by
  intro pins s σ H D I h
  refine wpAny_Assign_stores (thn (he pins s σ H _ I h) fun v s1 ⟨x,H1,I1,r1,q1⟩=>?_) hs hw
  rw [h1]
  exact thn (hg pins s1 σ H1 x v _ I1 r1 q1) fun _ s2 q=>q
theorem ps_set {i : Nat} {x : Str} {e : Expr} {te : TE} {pos' : Pos} (hN : X.N.Nodup) (hi : X.N[i]? = some x) (hx : Loc X.env.scope x) (he : PE X e te) (hs : swapsWith e (some (.Name x pos')) pos.line X.env = pure false:=by rfl) (hf : X.fn x = true∨X.env.scope.names.lookup x = some .local:=by first | exact .inl rfl | exact .inr rfl | assumption) :
    PS X (.Assign [.Name x pos'] e pos) (tAsg te (gName i)):=by
  intro pins s σ H D I h
  refine wpAny_Assign_Name (thn (he pins s σ H _ I h) fun v s1 ⟨y,H1,I1,r1,q1⟩=>?_) hs
  exact store_ok I1 hN hi hx r1 (fun s2 I2=>⟨_,H1,I2,q1⟩) hf
def tAug (i : Nat) (te : TE) (ti : TIp) : TS:=fun D σ H=>∃ x,σ[i]? = some (some x)∧te σ H fun y H1=>ti x y H1 fun z H2=>D.nx (σ.set i (some z)) H2
theorem ps_aug {i : Nat} {x : Str} {e : Expr} {te : TE} {op : Operator} {ti : TIp} {pos' : Pos} (hN : X.N.Nodup) (hi : X.N[i]? = some x) (hx : Loc X.env.scope x) (he : PE X e te) (ho : PIp X op ti) (hf : X.fn x = true∨X.env.scope.names.lookup x = some .local:=by first | exact .inl rfl | exact .inr rfl | assumption) :
    PS X (.AugAssign (.Name x pos') op e pos) (tAug i te ti):=by
  intro pins s σ H D I h
  obtain ⟨v,e1,h⟩:=h
  obtain ⟨m,hn,hl⟩:=I.loc
  have vis : Vis X.env.scope x:=by rcases hx with k | k; exact .inl k; exact .inr (.inl k)
  obtain ⟨u,r,l⟩:=hl i x v hi e1 vis
  refine wpAny_AugAssign_Name ?_
  have go : wpAny (model X.prog X.w) X.A (eval e X.env) (fun w s₂=>wpAny (model X.prog X.w) X.A (inplaceOp op u w) (fun r s₃=>wpAny (model X.prog X.w) X.A (storeName X.env x r) (fun _=>SP X pins D .next) X.xe s₃) X.xe s₂) X.xe s:=by
    refine thn (he pins s σ H _ I h) fun w s1 ⟨y,H1,I1,r1,q1⟩=>?_
    refine thn (ho pins s1 σ H1 v y u w _ I1 r r1 q1) fun z s2 ⟨zv,H2,I2,r2,q2⟩=>?_
    exact store_ok I2 hN hi hx r2 (fun s3 I3=>⟨_,H2,I3,q2⟩) hf
  rcases l with ⟨hk,hm⟩ | ⟨hk,c,hc,hcell⟩
  · exact wpAny_loadName_local I.ok.kind hk hn hm go
  · rcases hk with hk | hk
    · exact wpAny_loadName_cell I.ok.kind hk hc hcell go
    · rcases hx with k | k
      · have : X.env.scope.names.lookup x = some .free:=hk
        rw [k] at this; cases this
      · have : X.env.scope.names.lookup x = some .free:=hk
        rw [k] at this; cases this
end
section
variable {X : Cx} {pos : Pos}
def tWhile (c : TT) (tb : TS) : TS:=fun D σ H=>∃ W : Nat→St→Hp→Prop,(∃ m,W m σ H)∧∀ m σ H,W m σ H →
  c σ H fun b H1=>if b = true then ∃ N : St→Hp→Prop,(∀ σ' H',N σ' H'→∃ m',m' < m∧W m' σ' H')∧tb { D with nx:=N,ct:=N,bk:=D.nx } σ H1 else D.nx σ H1
theorem ps_while {c : Expr} {body : List Stmt} {tc : TT} {tb : TS} (hp : PassesOwn (model X.prog X.w) X.A X.env X.xe) (hc : PT X c tc) (hb : PSs X body tb) : PS X (.While c body [] pos) (tWhile tc tb):=by
  intro pins s σ H D I h
  obtain ⟨W,⟨m0,w0⟩,turn⟩:=h
  refine wpAny_While (codeAny_whileLoop (fun n s'=>∃ σ' H',Inv X pins σ' H' s'∧W n σ' H') ?_ m0 ⟨σ,H,I,w0⟩)
  rintro n s1 ⟨σ1,H1,I1,w1⟩
  refine wpAny_passesOwn hp (thn (hc pins s1 σ1 H1 _ I1 (turn n σ1 H1 w1)) fun b s2 ⟨H2,I2,q2⟩=>?_)
  cases b with
  | true =>
    obtain ⟨N,hN,q2⟩:=q2
    rw [if_pos rfl]
    refine wpAny_passesOwn hp (thn (hb pins s2 σ1 H2 _ I2 q2) fun f s3 q3=>?_)
    cases f with
    | next =>
      obtain ⟨σ3,H3,I3,n3⟩:=q3
      obtain ⟨m',hm,w3⟩:=hN σ3 H3 n3
      exact ⟨m',hm,σ3,H3,I3,w3⟩
    | cont =>
      obtain ⟨σ3,H3,I3,n3⟩:=q3
      obtain ⟨m',hm,w3⟩:=hN σ3 H3 n3
      exact ⟨m',hm,σ3,H3,I3,w3⟩
    | brk=>exact q3
    | ret v=>exact q3
  | false =>
    rw [if_neg Bool.false_ne_true]
    exact wpAny_execs_nil ⟨σ1,H2,I2,q2⟩
end
structure It where
  go : Nat→Hp→Prop
  yld : Nat→Hp→V→Hp→Prop
  stop : Nat→Hp→Prop
def FpOk (X : Cx) (pins : List (Addr × Obj)) (H : Hp) (b : Addr) : Prop :=
  H b = none∧b ≠ X.env.locals∧b ∉ X.fs∧(b ∈ X.ex∨X.s₀.heap.objs.size ≤ b)∧(∀ x c,X.env.cells.lookup x = some c→c ≠ b)∧∀ p ∈ X.pn++pins,p.1 ≠ b
theorem Inv.fpOk {X : Cx} {pins : List (Addr × Obj)} {σ : St} {H H' : Hp} {s : Shared} {b : Addr} (I : Inv X pins σ H s) (hb : s.heap.objs.size ≤ b) (hn : H' b = none) : FpOk X pins H' b:=by
  refine ⟨hn,Nat.ne_of_gt (Nat.lt_of_lt_of_le I.lt hb),I.nofs hb,.inr (Nat.le_trans I.sz hb),fun x c e z=>?_,fun p hp z=>?_⟩
  · obtain ⟨v,q⟩:=I.cell x c e
    exact absurd (Nat.lt_of_lt_of_le q.lt (by rw [z]; exact hb)) (Nat.lt_irrefl _)
  · exact absurd (Nat.lt_of_lt_of_le (Heap.lt_size (I.pin p hp).1) (by rw [z]; exact hb)) (Nat.lt_irrefl _)
structure Turn (P : Program) (w : World) (K : PySem.W.Frag) (tg : Expr) (J : It) (fp : List Addr) (it : Addr) (tn : Nat→Heap→Prop) : Prop where
  mem : it ∈ fp
  obj : ∀ i h,tn i h→∀ b ∈ fp,∃ o,h.get? b = some o∧∀ v,o.data ≠ .cell v
  keep : ∀ i h h',tn i h→(∀ b ∈ fp,∀ o,h.get? b = some o→h'.get? b = some o)→tn i h'
  item : ∀ (X : Cx),X.prog = P→X.w = w→X.K = K→X.calm = true→∀ (i : Nat) (pins : List (Addr × Obj)) (s : Shared) (σ : St) (H : Hp) (E : Value→Shared→Prop),Inv X pins σ H s→(∀ b ∈ fp,FpOk X pins H b)→tn i s.heap→J.go i H →
    wpAny (model P w) X.A (pyNext (.ref it)) (fun r s1=>∃ u,r = some u ∧
      wpAny (model P w) X.A (letOwnedTupleGo tg (.ref it) u) (fun _ s2=>∃ x H',Inv X pins σ H' s2∧RelV x u∧J.yld i H x H'∧tn (i + 1) s2.heap∧∀ b ∈ fp,H' b = none) E s1) E s
  done : ∀ (X : Cx),X.prog = P→X.w = w→X.K = K→X.calm = true→∀ (i : Nat) (pins : List (Addr × Obj)) (s : Shared) (σ : St) (H : Hp) (E : Value→Shared→Prop),Inv X pins σ H s→(∀ b ∈ fp,FpOk X pins H b)→tn i s.heap→J.stop i H →
    wpAny (model P w) X.A (pyNext (.ref it)) (fun r s1=>r = none∧Inv X pins σ H s1) E s
  self : ∀ (A : Around) (i : Nat) (s : Shared) (Q : Value→Shared→Prop) (E : Value→Shared→Prop),tn i s.heap→Q (.ref it) s→wpAny (model P w) A (pyIter (.ref it)) Q E s
abbrev TI:=St→Hp→(It→Hp→Prop)→Prop
def PIE (X : Cx) (pins : List (Addr × Obj)) (σ : St) (tg : Expr) (R : It→Hp→Prop) (itv : Value) (s2 : Shared) : Prop :=
  ∃ (it : Addr) (fp : List Addr) (tn : Nat→Heap→Prop) (J : It) (H' : Hp),itv = .ref it∧Inv X pins σ H' s2∧Turn X.prog X.w X.K tg J fp it tn∧tn 0 s2.heap∧(∀ b ∈ fp,FpOk X pins H' b)∧R J H'
def PI (X : Cx) (tg iter : Expr) (wi : TI) : Prop :=
  ∀ (pins : List (Addr × Obj)) (s : Shared) (σ : St) (H : Hp) (R : It→Hp→Prop),Inv X pins σ H s→wi σ H R →
    wpAny (model X.prog X.w) X.A (eval iter X.env) (fun v s1=>wpAny (model X.prog X.w) X.A (pyIter v) (PIE X pins σ tg R) X.xe s1) X.xe s
theorem go_of {M : Model} {A : Around} {E : Value→Shared→Prop} {s : Shared} {tg : Expr} {it : Addr} {u : Value} {o : Obj} {n : String} {vs : Array Value} {Q : Unit→Shared→Prop} (ho : s.heap.get? it = some o) (hc : o.cls = .type n) (hd : o.data = .fields vs)
    (hn : ["enumerate","zip","dict_itemiterator","dict_reverseitemiterator","odict_iterator","itertools.zip_longest","itertools.pairwise"].contains n = false) (hQ : Q () s) : wpAny M A (letOwnedTupleGo tg (.ref it) u) Q E s:=by
  unfold letOwnedTupleGo
  cases tg <;> first
    | exact wpAny_pure hQ
    | (cases u <;> first
        | exact wpAny_pure hQ
        | (refine wpAny_bind (wpAny_load ho ?_)
           rw [hc,hd]
           show wpAny M A (if (["enumerate","zip","dict_itemiterator","dict_reverseitemiterator","odict_iterator","itertools.zip_longest","itertools.pairwise"].contains n && vs[0]? == some (rawInt _)) = true then _ else _) Q E s
           rw [if_neg (by intro h; rw [hn,Bool.false_and] at h; cases h)]
           exact wpAny_pure hQ))
def Itl (K : PySem.W.Frag) (a : Addr) : It :=
  ⟨fun i H=>∃ xs x,SqL K H a xs∧xs[i]? = some x,fun i H x H'=>H' = H∧∀ xs,SqL K H a xs→xs[i]? = some x,fun i H=>∃ xs,SqL K H a xs∧xs.length ≤ i⟩
def Itt (K : PySem.W.Frag) (a : Addr) : It :=
  ⟨fun i H=>∃ xs x,SqT K H a xs∧xs[i]? = some x,fun i H x H'=>H' = H∧∀ xs,SqT K H a xs→xs[i]? = some x,fun i H=>∃ xs,SqT K H a xs∧xs.length ≤ i⟩
def Itr (lo : Int) (n : Nat) : It:=⟨fun i _=>i < n,fun i H x H'=>H' = H∧x = .int (lo + i),fun i _=>n ≤ i⟩
theorem turn_list {P : Program} {w : World} {K : PySem.W.Frag} {tg : Expr} (a it : Addr) : Turn P w K tg (Itl K a) [it] it (fun i h=>h.IsListIter it a i) where
  mem:=by simp
  obj:=fun i h st b hb=>by
    have e : b = it:=by simpa using hb
    subst e
    obtain ⟨o,e,c,d⟩:=st
    exact ⟨o,e,fun v z=>by rw [d] at z; cases z⟩
  keep:=fun i h h' st k=>st.at fun o e=>k it (by simp) o e
  item:=by
    intro X hP hw hK hc i pins s σ H E I hf st hg
    subst hP hw hK
    obtain ⟨xs,x,hq,hx⟩:=hg
    obtain ⟨its,rv,p,hz⟩:=I.list hq
    obtain ⟨u,hu,ru⟩:=rv.get hx
    obtain ⟨f0,f1,f2,f3,f4,f5⟩:=hf it (by simp)
    refine wpAny_pyNext_list_item st p.isList (x:=u) (by simpa using hu) fun h' st' sb=>?_
    have I1 : Inv X pins σ H { s with heap:=h' }:=I.turned (t':=s.toks) (fun b o hb e=>(sb.2 b hb).trans e) f0 f1 f3 f4 f5
    obtain ⟨o,e,c,d⟩:=id st'
    exact ⟨u,rfl,go_of (s:={ s with heap:=h' }) e c d (by decide) ⟨x,H,I1,ru,⟨rfl,fun ys hy=>by rw [I.list_inj hy hq]; exact hx⟩,st',fun b hb=>(hf b hb).1⟩⟩
  done:=by
    intro X hP hw hK hc i pins s σ H E I hf st hg
    subst hP hw hK
    obtain ⟨xs,hq,hx⟩:=hg
    obtain ⟨its,rv,p,hz⟩:=I.list hq
    obtain ⟨f0,f1,f2,f3,f4,f5⟩:=hf it (by simp)
    have hl:=rv.length
    exact wpAny_pyNext_list_end (I.ok.hd hc) st p.isList (by simp; omega) fun h' eb=>⟨rfl,I.turned (t':=s.toks) (fun b o hb e=>eb b o hb e) f0 f1 f3 f4 f5⟩
  self:=fun _ _ _ _ _ st h=>wpAny_pyIter_listiter st h
theorem turn_tuple {P : Program} {w : World} {K : PySem.W.Frag} {tg : Expr} (a it : Addr) : Turn P w K tg (Itt K a) [it] it (fun i h=>h.IsTupleIter it a i) where
  mem:=by simp
  obj:=fun i h st b hb=>by
    have e : b = it:=by simpa using hb
    subst e
    obtain ⟨o,e,c,d⟩:=st
    exact ⟨o,e,fun v z=>by rw [d] at z; cases z⟩
  keep:=fun i h h' st k=>st.at fun o e=>k it (by simp) o e
  item:=by
    intro X hP hw hK hc i pins s σ H E I hf st hg
    subst hP hw hK
    obtain ⟨xs,x,hq,hx⟩:=hg
    obtain ⟨its,rv,p,hz⟩:=I.tuple hq
    obtain ⟨u,hu,ru⟩:=rv.get hx
    obtain ⟨f0,f1,f2,f3,f4,f5⟩:=hf it (by simp)
    refine wpAny_pyNext_tuple_item st (show s.heap.IsTuple a its.toArray from p) (x:=u) (by simpa using hu) fun h' st' sb=>?_
    have I1 : Inv X pins σ H { s with heap:=h' }:=I.turned (t':=s.toks) (fun b o hb e=>(sb.2 b hb).trans e) f0 f1 f3 f4 f5
    obtain ⟨o,e,c,d⟩:=id st'
    exact ⟨u,rfl,go_of (s:={ s with heap:=h' }) e c d (by decide) ⟨x,H,I1,ru,⟨rfl,fun ys hy=>by rw [I.tuple_inj hy hq]; exact hx⟩,st',fun b hb=>(hf b hb).1⟩⟩
  done:=by
    intro X hP hw hK hc i pins s σ H E I hf st hg
    subst hP hw hK
    obtain ⟨xs,hq,hx⟩:=hg
    obtain ⟨its,rv,p,hz⟩:=I.tuple hq
    obtain ⟨f0,f1,f2,f3,f4,f5⟩:=hf it (by simp)
    have hl:=rv.length
    exact wpAny_pyNext_tuple_end (I.ok.hd hc) st (show s.heap.IsTuple a its.toArray from p) (by simp; omega) fun h' eb=>⟨rfl,I.turned (t':=s.toks) (fun b o hb e=>eb b o hb e) f0 f1 f3 f4 f5⟩
  self:=fun _ _ _ _ _ st h=>wpAny_pyIter_tupleiter st h
theorem turn_range {P : Program} {w : World} {K : PySem.W.Frag} {tg : Expr} (it : Addr) (lo : Int) (n : Nat) : Turn P w K tg (Itr lo n) [it] it (fun i h=>IsRangeIter h it (lo + (i : Nat) * 1) ((n : Int) - (i : Nat)) 1) where
  mem:=by simp
  obj:=fun i h st b hb=>by
    have e : b = it:=by simpa using hb
    subst e
    exact ⟨_,st,fun v z=>by
      have z' : Data.fields _ = Data.cell v:=z
      cases z'⟩
  keep:=fun i h h' st k=>k it (by simp) _ st
  item:=by
    intro X hP hw hK hc i pins s σ H E I hf st hg
    subst hP hw hK
    obtain ⟨f0,f1,f2,f3,f4,f5⟩:=hf it (by simp)
    have W:=Walks.range (prog:=X.prog) (w:=X.w) (I.ok.hd hc) it lo 1 n
    refine W.item i s _ _ hg st fun v h' tk hv st' kk=>?_
    obtain ⟨t,rfl⟩:=hv
    have I1 : Inv X pins σ H { s with heap:=h',toks:=tk }:=I.turned (fun b o hb e=>kk b o (by simpa using hb) e) f0 f1 f3 f4 f5
    refine ⟨_,rfl,go_of (s:={ s with heap:=h',toks:=tk }) (n:="range_iterator") st' rfl rfl (by decide) ⟨.int (lo + i),H,I1,⟨t,?_⟩,⟨rfl,rfl⟩,st',fun b hb=>(hf b hb).1⟩⟩
    rw [Int.mul_one]
  done:=by
    intro X hP hw hK hc i pins s σ H E I hf st hg
    subst hP hw hK
    obtain ⟨f0,f1,f2,f3,f4,f5⟩:=hf it (by simp)
    exact wpAny_pyNext_range_end (I.ok.hd hc) st (by have : n ≤ i:=hg; omega) fun h' eb=>⟨rfl,I.turned (t':=s.toks) (fun b o hb e=>eb b o hb e) f0 f1 f3 f4 f5⟩
  self:=fun _ _ _ _ _ st h=>wpAny_pyIter_rangeiter st h
end L2
namespace L2
open PySem PySem.Spec PyProof.Rows
section
variable {X : Cx} {tg : Expr}
theorem range_it {pins : List (Addr × Obj)} {σ : St} {H : Hp} {s : Shared} {R : It→Hp→Prop} {E : Value→Shared→Prop} {lo hi : Int} {t u v : Tok} {tk : Nat} (I : Inv X pins σ H s) (h1 : -(2 ^ 62) ≤ lo) (h2 : lo < 2 ^ 62) (h3 : -(2 ^ 62) ≤ hi) (h4 : hi < 2 ^ 62)
    (q : R (Itr lo (hi - lo).toNat) H) : wpAny (model X.prog X.w) X.A (pyIter (.ref s.heap.objs.size)) (PIE X pins σ tg R) E { s with heap:=s.heap.push { cls:=.type "range",data:=.fields #[.int lo t,.int hi u,.int 1 v] },toks:=tk }:=by
  refine wpAny_pyIter_range (IsRange.new ..) (small_one h1 h2 h3 h4) ?_
  have I1 : Inv X pins σ H { s with heap:=s.heap.push { cls:=.type "range",data:=.fields #[.int lo t,.int hi u,.int 1 v] },toks:=tk }:=I.kept fun b o e=>Heap.get?_push_of_some _ e
  refine ⟨(s.heap.push { cls:=.type "range",data:=.fields #[.int lo t,.int hi u,.int 1 v] }).objs.size,[(s.heap.push { cls:=.type "range",data:=.fields #[.int lo t,.int hi u,.int 1 v] }).objs.size],_,_,H,rfl,
    I1.kept (t':=tk) fun b o e=>Heap.get?_push_of_some _ e,turn_range _ lo (hi - lo).toNat,?_,fun b hb=>?_,q⟩
  · have e1 : lo + ((0 : Nat) : Int) * 1 = lo:=by simp
    have e2 : (((hi - lo).toNat : Nat) : Int) - ((0 : Nat) : Int) = Builtin.Range.rangeSize lo hi 1:=by rw [rangeSize_one]; split <;> omega
    show IsRangeIter _ _ (lo + ((0 : Nat) : Int) * 1) ((((hi - lo).toNat : Nat) : Int) - ((0 : Nat) : Int)) 1
    rw [e1,e2]
    exact Heap.get?_push_size _ rfl
  · have e : b = (s.heap.push { cls:=.type "range",data:=.fields #[.int lo t,.int hi u,.int 1 v] }).objs.size:=by simpa using hb
    subst e
    exact I1.fpOk (Nat.le_refl _) (I1.hok.fresh (Nat.le_refl _))
def iRng1 (ta : TA) : TI:=fun σ H R=>ta σ H fun vs H1=>∃ j : Int,vs = [.int j]∧-(2 ^ 62) ≤ j∧j < 2 ^ 62∧R (Itr 0 j.toNat) H1
def iRng2 (ta : TA) : TI:=fun σ H R=>ta σ H fun vs H1=>∃ i j : Int,vs = [.int i,.int j]∧(-(2 ^ 62) ≤ i∧i < 2 ^ 62∧-(2 ^ 62) ≤ j∧j < 2 ^ 62)∧R (Itr i (j - i).toNat) H1
theorem pi_range1 {a : Expr} {ta : TA} {p pos : Pos} (hg : Gl X "range") (hm : X.mg "range" = none) (ha : PA X [a] ta) (hs : starEach [a] X.env = [(false,eval a X.env)]:=by rfl) : PI X tg (.Call (.Name "range" p) [a] [] pos) (iRng1 ta):=by
  intro pins s σ H R I h
  refine Call_ (ld_blt I hg hm boot_range (PyProof.Rows.callWith_type1 (thn (ha pos pins s σ H _ I h) fun us s1 ⟨vs,H1,I1,r1,q1⟩=>?_) hs rfl))
  obtain ⟨j,e,q1,q2,q⟩:=q1
  subst e
  cases r1 with
  | cons r rr =>
    cases rr
    obtain ⟨t,rfl⟩:=r
    exact call_range_1 (range_it I1 (by omega) (by omega) q1 q2 (by simpa using q))
theorem pi_range2 {a b : Expr} {ta : TA} {p pos : Pos} (hg : Gl X "range") (hm : X.mg "range" = none) (ha : PA X [a,b] ta) (hs : starEach [a,b] X.env = [(false,eval a X.env),(false,eval b X.env)]:=by rfl) (hs2 : starEach [b] X.env = [(false,eval b X.env)]:=by rfl) :
    PI X tg (.Call (.Name "range" p) [a,b] [] pos) (iRng2 ta):=by
  intro pins s σ H R I h
  refine Call_ (ld_blt I hg hm boot_range (PyProof.Rows.callWith_type1 (thn (ha pos pins s σ H _ I h) fun us s1 ⟨vs,H1,I1,r1,q1⟩=>?_) (by rw [hs,hs2]) (by rw [hs2]; rfl)))
  obtain ⟨i,j,e,⟨q1,q2,q3,q4⟩,q⟩:=q1
  subst e
  cases r1 with
  | cons r rr =>
    cases rr with
    | cons r' rr =>
      cases rr
      obtain ⟨t,rfl⟩:=r
      obtain ⟨t',rfl⟩:=r'
      exact call_range_2 (range_it I1 q1 q2 q3 q4 q)
def tFor (wi : TI) (g : TG) (tb : TS) : TS:=fun D σ H=>wi σ H fun J H1=>∃ W : Nat→Nat→St→Hp→Prop,(∃ m,W 0 m σ H1)∧∀ i m σ H,W i m σ H →
  (J.stop i H∧D.nx σ H)∨(J.go i H∧∃ N : St→Hp→Prop,(∀ σ' H',N σ' H'→∃ m',m' < m∧W (i + 1) m' σ' H')∧∀ x H',J.yld i H x H'→g x σ H' fun σ2 H2=>tb { D with nx:=N,ct:=N,bk:=D.nx } σ2 H2)
def pinsAt (fp : List Addr) (h : Heap) : List (Addr × Obj):=fp.filterMap fun b=>(h.get? b).map fun o=>(b,o)
theorem mem_pinsAt {fp : List Addr} {h : Heap} {b : Addr} {o : Obj} (hb : b ∈ fp) (e : h.get? b = some o) : (b,o) ∈ pinsAt fp h:=List.mem_filterMap.mpr ⟨b,hb,by rw [e]; rfl⟩
theorem of_pinsAt {fp : List Addr} {h : Heap} {p : Addr × Obj} (hp : p ∈ pinsAt fp h) : p.1 ∈ fp∧h.get? p.1 = some p.2:=by
  obtain ⟨b,hb,e⟩:=List.mem_filterMap.mp hp
  cases q : h.get? b with
  | none=>rw [q] at e; cases e
  | some o =>
    rw [q] at e
    have e' : (b,o) = p:=Option.some.inj e
    subst e'
    exact ⟨hb,q⟩
theorem Inv.pinned {pins : List (Addr × Obj)} {σ : St} {H : Hp} {s : Shared} {fp : List Addr} (I : Inv X pins σ H s) (hf : ∀ b ∈ fp,FpOk X pins H b) (ho : ∀ b ∈ fp,∃ o,s.heap.get? b = some o∧∀ v,o.data ≠ .cell v) : Inv X (pins++pinsAt fp s.heap) σ H s :=
  I.pins_of fun p hp=>(List.mem_append.mp hp).elim (fun z=>I.pin p (List.mem_append_right _ z)) fun z=>by
    obtain ⟨hb,e⟩:=of_pinsAt z
    obtain ⟨f0,f1,f2,_⟩:=hf p.1 hb
    obtain ⟨o,e',d⟩:=ho p.1 hb
    rw [e] at e'; cases e'
    exact ⟨e,f0,f1,f2,d⟩
theorem Inv.unpinned {pins pl : List (Addr × Obj)} {σ : St} {H : Hp} {s : Shared} (I : Inv X (pins++pl) σ H s) : Inv X pins σ H s:=I.pins_of fun p hp=>I.pin p (List.mem_append_right _ (List.mem_append_left _ hp))
theorem ps_for {iter : Expr} {body : List Stmt} {wi : TI} {g : TG} {tb : TS} {pos : Pos} (hp : PassesOwn (model X.prog X.w) X.A X.env X.xe) (hc : X.calm = true) (hi : PI X tg iter wi) (hg : PG X tg g) (hb : PSs X body tb)
    (hs : ∀ x,foldedSetIterable iter X.env x = pure x:=by intro _; rfl) : PS X (.For tg iter body [] pos) (tFor wi g tb):=by
  intro pins s σ H D I h
  refine wpAny_For (thn (hi pins s σ H _ I h) fun v s1 h1=>thn h1 fun itv s2 h2=>?_) hs
  obtain ⟨it,fp,tn,J,H2,e,I2,T,st2,f2,W,⟨m0,w0⟩,turn⟩:=h2
  subst e
  -- what stays true of the iterator's objects through the loop
  have stat : ∀ {H' : Hp},(∀ b ∈ fp,H' b = none)→∀ b ∈ fp,FpOk X pins H' b:=fun hn b hb=>⟨hn b hb,(f2 b hb).2⟩
  refine codeAny_forLoop_any (fun n s'=>∃ i σ' H',Inv X pins σ' H' s'∧tn i s'.heap∧(∀ b ∈ fp,H' b = none)∧W i n σ' H') ?_ m0 ⟨0,σ,H2,I2,st2,fun b hb=>(f2 b hb).1,w0⟩
  rintro n s3 ⟨i,σ3,H3,I3,st3,fr3,w3⟩
  rcases turn i n σ3 H3 w3 with ⟨stop,qn⟩ | ⟨go,N,hN,step⟩
  · refine wpAny_passesOwn hp (thn (T.done X rfl rfl rfl hc i pins s3 σ3 H3 X.xe I3 (stat fr3) st3 stop) fun r s4 ⟨hr,I4⟩=>?_)
    subst hr
    exact wpAny_execs_nil ⟨σ3,H3,I4,qn⟩
  · refine wpAny_passesOwn hp (thn (T.item X rfl rfl rfl hc i pins s3 σ3 H3 X.xe I3 (stat fr3) st3 go) fun r s4 ⟨u,hr,h4⟩=>?_)
    subst hr
    refine wpAny_passesOwn hp (thn h4 fun _ s5 ⟨x,H5,I5,r5,y5,st5,fr5⟩=>?_)
    have I5':=I5.pinned (stat fr5) (T.obj _ _ st5)
    refine wpAny_passesOwn hp (thn (hg _ s5 σ3 H5 x u _ I5' r5 (step x H5 y5)) fun _ s6 ⟨σ6,H6,I6,q6⟩=>?_)
    refine wpAny_passesOwn hp (thn (hb _ s6 σ6 H6 _ I6 q6) fun f s7 q7=>?_)
    have again : ∀ {σ7 : St} {H7 : Hp},Inv X (pins++pinsAt fp s5.heap) σ7 H7 s7→N σ7 H7→∃ m,m < n∧∃ i σ' H',Inv X pins σ' H' s7∧tn i s7.heap∧(∀ b ∈ fp,H' b = none)∧W i m σ' H':=fun {σ7 H7} I7 n7=>by
      obtain ⟨m',hm,w7⟩:=hN σ7 H7 n7
      refine ⟨m',hm,i + 1,σ7,H7,I7.unpinned,T.keep _ _ _ st5 fun b hb o e=>(I7.pin (b,o) (List.mem_append_right _ (List.mem_append_right _ (mem_pinsAt hb e)))).1,fun b hb=>?_,w7⟩
      obtain ⟨o,e,d⟩:=T.obj _ _ st5 b hb
      exact (I7.pin (b,o) (List.mem_append_right _ (List.mem_append_right _ (mem_pinsAt hb e)))).2.1
    cases f with
    | next=>obtain ⟨σ7,H7,I7,n7⟩:=q7; exact again I7 n7
    | cont=>obtain ⟨σ7,H7,I7,n7⟩:=q7; exact again I7 n7
    | brk=>obtain ⟨σ7,H7,I7,q7⟩:=q7; exact ⟨σ7,H7,I7.unpinned,q7⟩
    | ret v=>obtain ⟨x7,σ7,H7,I7,r7,q7⟩:=q7; exact ⟨x7,σ7,H7,I7.unpinned,r7,q7⟩
end
end L2
namespace L2
open PySem PySem.Spec PyProof.Rows
abbrev R2:=V→V→Hp→VK→Prop
def OpR (X : Cx) (f : Value→Value→Sem Value) (r : R2) : Prop :=
  ∀ (pins : List (Addr × Obj)) (s : Shared) (σ : St) (H : Hp) (x y : V) (v u : Value) (Q : VK),Inv X pins σ H s→RelV x v→RelV y u→r x y H Q →
    wpAny (model X.prog X.w) X.A (f v u) (EP X pins σ Q) X.xe s
def UnR (X : Cx) (f : Value→Sem Value) (r : V→Hp→VK→Prop) : Prop :=
  ∀ (pins : List (Addr × Obj)) (s : Shared) (σ : St) (H : Hp) (x : V) (v : Value) (Q : VK),Inv X pins σ H s→RelV x v→r x H Q →
    wpAny (model X.prog X.w) X.A (f v) (EP X pins σ Q) X.xe s
def CallR (X : Cx) (f : Value) (r : List V→Hp→VK→Prop) : Prop :=
  ∀ (pins : List (Addr × Obj)) (s : Shared) (σ : St) (H : Hp) (xs : List V) (us : List Value) (Q : VK),Inv X pins σ H s→Vals xs us→r xs H Q →
    wpAny (model X.prog X.w) X.A (call f us) (EP X pins σ Q) X.xe s
def TruR (X : Cx) (r : V→Hp→(Bool→Hp→Prop)→Prop) : Prop :=
  ∀ (pins : List (Addr × Obj)) (s : Shared) (σ : St) (H : Hp) (x : V) (v : Value) (Q : Bool→Hp→Prop),Inv X pins σ H s→RelV x v→r x H Q →
    wpAny (model X.prog X.w) X.A (truthy v) (TP X pins σ Q) X.xe s
def tOp (r : R2) (ta tb : TE) : TE:=fun σ H Q=>ta σ H fun x H1=>tb σ H1 fun y H2=>r x y H2 Q
def tUn (r : V→Hp→VK→Prop) (ta : TE) : TE:=fun σ H Q=>ta σ H fun x H1=>r x H1 Q
def rI (C : Int→Int→Prop) (g : Int→Int→V) : R2:=fun x y H Q=>∃ i j,x = .int i∧y = .int j∧C i j∧Q (g i j) H
def rI0 (g : Int→Int→V) : R2:=fun x y H Q=>∃ i j,x = .int i∧y = .int j∧Q (g i j) H
def rU (g : Int→V) : V→Hp→VK→Prop:=fun x H Q=>∃ i,x = .int i∧Q (g i) H
section
variable {X : Cx} {a b c : Expr} {ta tb tc : TE} {pos : Pos}
theorem binT (ha : PE X a ta) (hb : PE X b tb) {pins : List (Addr × Obj)} {s : Shared} {σ : St} {H : Hp} {R : V→V→Hp→Prop} (I : Inv X pins σ H s)
    (h : ta σ H fun x H1=>tb σ H1 fun y H2=>R x y H2) {Q : Value→Shared→Prop} {f : Value→Value→Sem Value}
    (hf : ∀ v u s2 x y H2,Inv X pins σ H2 s2→RelV x v→RelV y u→R x y H2→wpAny (model X.prog X.w) X.A (f v u) Q X.xe s2) :
    wpAny (model X.prog X.w) X.A (eval a X.env) (fun v s₁=>wpAny (model X.prog X.w) X.A (eval b X.env) (fun u s₂=>wpAny (model X.prog X.w) X.A (f v u) Q X.xe s₂) X.xe s₁) X.xe s:=by
  refine thn (ha pins s σ H _ I h) fun v s1 ⟨x,H1,I1,r1,q1⟩=>?_
  refine thn (hb pins s1 σ H1 _ I1 q1) fun u s2 ⟨y,H2,I2,r2,q2⟩=>?_
  exact hf v u s2 x y H2 I2 r1 r2 q2
theorem pe_op {op : Operator} {r : R2} (ho : OpR X (binaryOp op) r) (ha : PE X a ta) (hb : PE X b tb) : PE X (.BinOp a op b pos) (tOp r ta tb):=by
  intro pins s σ H Q I h
  exact wpAny_BinOp (binT ha hb I h fun v u s2 x y H2 I2 rx ry q=>ho pins s2 σ H2 x y v u Q I2 rx ry q)
theorem pe_un {op : UnaryOp} {r : V→Hp→VK→Prop} (ho : UnR X (unaryOp op) r) (ha : PE X a ta) : PE X (.UnaryOp op a pos) (tUn r ta):=by
  intro pins s σ H Q I h
  exact UnaryOp_ (thn (ha pins s σ H _ I h) fun v s1 ⟨x,H1,I1,r1,q1⟩=>ho pins s1 σ H1 x v Q I1 r1 q1)
theorem opI {f : Value→Value→Sem Value} {C : Int→Int→Prop} {g : Int→Int→Int}
    (rule : ∀ (i j : Int) (t u : Tok) (s : Shared) (Q : Value→Shared→Prop) (E : Value→Shared→Prop),C i j→Q (.int (g i j) s.toks) { s with toks:=s.toks + 1 }→wpAny (model X.prog X.w) X.A (f (.int i t) (.int j u)) Q E s) :
    OpR X f (rI C fun i j=>.int (g i j)):=by
  intro pins s σ H x y v u Q I rx ry h
  obtain ⟨i,j,rfl,rfl,hc,q⟩:=h
  obtain ⟨t,rfl⟩:=rx
  obtain ⟨t',rfl⟩:=ry
  exact rule i j t t' s _ _ hc ⟨.int (g i j),H,I.tok _,⟨_,rfl⟩,q⟩
theorem opI0 {f : Value→Value→Sem Value} {g : Int→Int→Int}
    (rule : ∀ (i j : Int) (t u : Tok) (s : Shared) (Q : Value→Shared→Prop) (E : Value→Shared→Prop),Q (.int (g i j) s.toks) { s with toks:=s.toks + 1 }→wpAny (model X.prog X.w) X.A (f (.int i t) (.int j u)) Q E s) :
    OpR X f (rI0 fun i j=>.int (g i j)):=by
  intro pins s σ H x y v u Q I rx ry h
  obtain ⟨i,j,rfl,rfl,q⟩:=h
  obtain ⟨t,rfl⟩:=rx
  obtain ⟨t',rfl⟩:=ry
  exact rule i j t t' s _ _ ⟨.int (g i j),H,I.tok _,⟨_,rfl⟩,q⟩
theorem opB0 {f : Value→Value→Sem Value} {g : Int→Int→Bool}
    (rule : ∀ (i j : Int) (t u : Tok) (s : Shared) (Q : Value→Shared→Prop) (E : Value→Shared→Prop),Q (.bool (g i j)) s→wpAny (model X.prog X.w) X.A (f (.int i t) (.int j u)) Q E s) :
    OpR X f (rI0 fun i j=>.bl (g i j)):=by
  intro pins s σ H x y v u Q I rx ry h
  obtain ⟨i,j,rfl,rfl,q⟩:=h
  obtain ⟨t,rfl⟩:=rx
  obtain ⟨t',rfl⟩:=ry
  exact rule i j t t' s _ _ ⟨.bl (g i j),H,I,rfl,q⟩
def CPow (i j : Int) : Prop:=0 ≤ j∧j ≤ 1000000∧i.natAbs < 2 ^ 64
def CMul (i j : Int) : Prop:=(-(2 ^ 64) < i∧i < 2 ^ 64)∨(-(2 ^ 64) < j∧j < 2 ^ 64)
theorem CMul.ok {i j : Int} (h : CMul i j) : IntMulOk i j:=by
  rcases h with ⟨h1,h2⟩ | ⟨h1,h2⟩
  · exact .of_left (intBits_le_64 h1 h2)
  · exact .of_right (intBits_le_64 h1 h2)
theorem op_add : OpR X (binaryOp .Add) (rI0 fun i j=>.int (i + j)):=opI0 fun _ _ _ _ _ _ _ q=>add_int q
theorem op_sub : OpR X (binaryOp .Sub) (rI0 fun i j=>.int (i - j)):=opI0 fun _ _ _ _ _ _ _ q=>sub_int q
theorem op_mul : OpR X (binaryOp .Mult) (rI CMul fun i j=>.int (i * j)):=opI fun _ _ _ _ _ _ _ hc q=>mul_int q hc.ok
theorem op_mod : OpR X (binaryOp .Mod) (rI (fun _ j=>0 < j) fun i j=>.int (i % j)):=opI fun i j _ _ _ _ _ hc q=>by
  have h1 : (0 : Int) < j:=hc
  exact mod_int' (by omega) (by rw [Int.fmod_eq_emod_of_nonneg i (by omega)]; exact q)
theorem op_pow : OpR X (binaryOp .Pow) (rI CPow fun i j=>.int (i ^ j.toNat)):=opI fun _ _ _ _ _ _ _ hc q=>pow_int_small hc.1 hc.2.1 hc.2.2 q
theorem iop_add : OpR X (inplaceOp .Add) (rI0 fun i j=>.int (i + j)):=opI0 fun _ _ _ _ _ _ _ q=>iadd_int q
theorem iop_sub : OpR X (inplaceOp .Sub) (rI0 fun i j=>.int (i - j)):=opI0 fun _ _ _ _ _ _ _ q=>isub_int q
theorem iop_mul : OpR X (inplaceOp .Mult) (rI CMul fun i j=>.int (i * j)):=opI fun _ _ _ _ _ _ _ hc q=>imul_int q hc.ok
theorem unI {f : Value→Sem Value} {g : Int→Int}
    (rule : ∀ (i : Int) (t : Tok) (s : Shared) (Q : Value→Shared→Prop) (E : Value→Shared→Prop),Q (.int (g i) s.toks) { s with toks:=s.toks + 1 }→wpAny (model X.prog X.w) X.A (f (.int i t)) Q E s) :
    UnR X f (rU fun i=>.int (g i)):=by
  intro pins s σ H x v Q I rx h
  obtain ⟨i,rfl,q⟩:=h
  obtain ⟨t,rfl⟩:=rx
  exact rule i t s _ _ ⟨.int (g i),H,I.tok _,⟨_,rfl⟩,q⟩
theorem un_neg : UnR X (unaryOp .USub) (rU fun i=>.int (-i)):=unI fun _ _ _ _ _ q=>neg_int q
end
section
variable {X : Cx} {a b c : Expr} {ta tb tc : TE} {pos : Pos}
theorem fin_bl {pins : List (Addr × Obj)} {σ : St} {H : Hp} {s : Shared} {Q : VK} {k k' : Bool} (I : Inv X pins σ H s) (q : Q (.bl k) H) (e : k = k') : EP X pins σ Q (.bool k') s:=by
  subst e
  exact ⟨.bl k,H,I,rfl,q⟩
theorem op_lt : OpR X (compareOp .Lt) (rI0 fun i j=>.bl (decide (i < j))):=opB0 fun _ _ _ _ _ _ _ q=>lt_int q
theorem op_le : OpR X (compareOp .LtE) (rI0 fun i j=>.bl (decide (i ≤ j))):=opB0 fun _ _ _ _ _ _ _ q=>le_int q
theorem op_gt : OpR X (compareOp .Gt) (rI0 fun i j=>.bl (decide (j < i))):=opB0 fun _ _ _ _ _ _ _ q=>gt_int q
theorem op_ge : OpR X (compareOp .GtE) (rI0 fun i j=>.bl (decide (j ≤ i))):=opB0 fun _ _ _ _ _ _ _ q=>ge_int q
theorem op_in_str : OpR X (compareOp .In) (fun x y H Q=>∃ i j,x = .str i∧y = .str j∧Q (.bl (!(Builtin.Str.occurrences j i 0 j.length 1).isEmpty)) H):=by
  intro pins s σ H x y v u Q I rx ry h
  obtain ⟨i,j,rfl,rfl,q⟩:=h
  obtain ⟨t,rfl⟩:=rx
  obtain ⟨t',rfl⟩:=ry
  exact in_str (fin_bl I q rfl)
theorem op_isN : OpR X (compareOp .Is) (fun x y H Q=>y = .non∧Q (.bl (decide (x = .non))) H):=by
  intro pins s σ H x y v u Q I rx ry h
  obtain ⟨rfl,q⟩:=h
  cases ry
  refine is_none_gen (fin_bl I q ?_)
  cases x <;> first
    | (cases rx; rfl)
    | (obtain ⟨t,rfl⟩:=rx; rfl)
theorem op_notN : OpR X (compareOp .IsNot) (fun x y H Q=>y = .non∧Q (.bl (!decide (x = .non))) H):=by
  intro pins s σ H x y v u Q I rx ry h
  obtain ⟨rfl,q⟩:=h
  cases ry
  refine isnot_none_gen (fin_bl I q ?_)
  cases x <;> first
    | (cases rx; rfl)
    | (obtain ⟨t,rfl⟩:=rx; rfl)
theorem op_notin_str : OpR X (compareOp .NotIn) (fun x y H Q=>∃ i j,x = .str i∧y = .str j∧Q (.bl (!(!(Builtin.Str.occurrences j i 0 j.length 1).isEmpty))) H):=by
  intro pins s σ H x y v u Q I rx ry h
  obtain ⟨i,j,rfl,rfl,q⟩:=h
  obtain ⟨t,rfl⟩:=rx
  obtain ⟨t',rfl⟩:=ry
  exact notIn_str (fin_bl I q rfl)
theorem OpR.or {f : Value→Value→Sem Value} {r r' : R2} (h : OpR X f r) (h' : OpR X f r') : OpR X f (fun x y H Q=>r x y H Q∨r' x y H Q):=by
  intro pins s σ H x y v u Q I rx ry q
  rcases q with q | q
  · exact h pins s σ H x y v u Q I rx ry q
  · exact h' pins s σ H x y v u Q I rx ry q
theorem pe_cmpR {op : CmpOp} {r : R2} (ho : OpR X (compareOp op) r) (ha : PE X a ta) (hb : PE X b tb) (hm : behindInMarks op b = false) : PE X (.Compare a [op] [b] pos) (tOp r ta tb):=by
  intro pins s σ H Q I h
  exact wpAny_Compare1 (binT ha hb I h fun v u s2 x y H2 I2 rx ry q=>ho pins s2 σ H2 x y v u Q I2 rx ry q) hm
def tTest (t : TE) : TT:=fun σ H Q=>t σ H fun x H'=>∃ k,x = .bl k∧Q k H'
theorem pt_cmpR {op : CmpOp} {r : R2} (ho : OpR X (compareOp op) r) (ha : PE X a ta) (hb : PE X b tb) (hm : behindInMarks op b = false) : PT X (.Compare a [op] [b] pos) (tTest (tOp r ta tb)):=by
  intro pins s σ H Q I h
  refine wpAny_isTrue_Compare1 (thn (ha pins s σ H _ I h) fun v s1 ⟨x,H1,I1,r1,q1⟩=>thn (hb pins s1 σ H1 _ I1 q1) fun u s2 ⟨y,H2,I2,r2,q2⟩ =>
    thn (ho pins s2 σ H2 x y v u _ I2 r1 r2 q2) fun c s3 ⟨z,H3,I3,r3,k,e,q3⟩=>?_) hm
  subst e
  cases r3
  exact wpAny_truthy_bool ⟨H3,I3,q3⟩
def tChain (r r' : R2) (ta tb tc : TE) : TE:=fun σ H Q=>ta σ H fun x H1=>tb σ H1 fun y H2=>r x y H2 fun z H3=>∃ k,z = .bl k ∧
  (if k = true then tc σ H3 fun w' H4=>r' y w' H4 Q else Q (.bl false) H3)
theorem pe_chain {op op' : CmpOp} {r r' : R2} (ho : OpR X (compareOp op) r) (ho' : OpR X (compareOp op') r') (ha : PE X a ta) (hb : PE X b tb) (hc : PE X c tc)
    (hm : lastMarks [op,op'] [b,c] = false:=by with_unfolding_all rfl) : PE X (.Compare a [op,op'] [b,c] pos) (tChain r r' ta tb tc):=by
  intro pins s σ H Q I h
  refine Compare_chain (thn (ha pins s σ H _ I h) fun v s1 ⟨x,H1,I1,r1,q1⟩=>chain_link (thn (hb pins s1 σ H1 _ I1 q1) fun u s2 ⟨y,H2,I2,r2,q2⟩ =>
    thn (ho pins s2 σ H2 x y v u _ I2 r1 r2 q2) fun d s3 ⟨z,H3,I3,r3,k,e,q3⟩=>?_)) hm
  subst e
  cases r3
  refine wpAny_truthy_bool ?_
  cases k with
  | false=>exact ite_ff ⟨.bl false,H3,I3,rfl,q3⟩
  | true=>exact ite_tt (chain_last (thn (hc pins s3 σ H3 _ I3 q3) fun w' s4 ⟨z',H4,I4,r4,q4⟩=>ho' pins s4 σ H4 y z' u w' Q I4 r2 r4 q4))
theorem pt_chain {op op' : CmpOp} {r r' : R2} (ho : OpR X (compareOp op) r) (ho' : OpR X (compareOp op') r') (ha : PE X a ta) (hb : PE X b tb) (hc : PE X c tc)
    (hm : lastMarks [op,op'] [b,c] = false:=by with_unfolding_all rfl) : PT X (.Compare a [op,op'] [b,c] pos) (tTest (tChain r r' ta tb tc)):=by
  intro pins s σ H Q I h
  refine isTrue_chain (thn (ha pins s σ H _ I h) fun v s1 ⟨x,H1,I1,r1,q1⟩=>test_link (thn (hb pins s1 σ H1 _ I1 q1) fun u s2 ⟨y,H2,I2,r2,q2⟩ =>
    thn (ho pins s2 σ H2 x y v u _ I2 r1 r2 q2) fun d s3 ⟨z,H3,I3,r3,k,e,q3⟩=>?_)) hm
  subst e
  cases r3
  refine wpAny_truthy_bool ?_
  cases k with
  | false =>
    obtain ⟨k',e',q'⟩:=q3
    cases e'
    exact ite_ff ⟨H3,I3,q'⟩
  | true =>
    refine ite_tt (test_last (thn (hc pins s3 σ H3 _ I3 q3) fun w' s4 ⟨z',H4,I4,r4,q4⟩=>thn (ho' pins s4 σ H4 y z' u w' _ I4 r2 r4 q4) fun d' s5 ⟨z2,H5,I5,r5,k2,e2,q5⟩=>?_))
    subst e2
    cases r5
    exact wpAny_truthy_bool ⟨H5,I5,q5⟩
def TruV (K : PySem.W.Frag) (x : V) (H : Hp) (k : Bool) : Prop :=
  match x with
  | .non=>k = false
  | .bl b=>k = b
  | .int i=>k = (i != 0)
  | .str y=>y.length ≤ sizeLine∧k = ((y.length : Int) != 0)
  | .byt y=>y.size ≤ sizeLine∧k = ((y.size : Int) != 0)
  | .ref p=>(∃ xs,SqL K H p xs∧k = !xs.isEmpty)∨(∃ xs,SqT K H p xs∧k = !xs.isEmpty)∨∃ kvs,H p = some (.dK kvs)∧k = !kvs.isEmpty
  | _=>False
theorem isEmpty_kv {κ : Type} {kvs : List (κ × V)} {vs : List (κ × Value)} (r : KV kvs vs) : (!vs.isEmpty) = !kvs.isEmpty:=by
  cases r <;> rfl
theorem isEmpty_of {xs : List V} {its : List Value} (r : Vals xs its) : (!its.toArray.isEmpty) = !xs.isEmpty:=by
  cases r <;> simp
theorem line63 : (sizeLine : Nat) < 2 ^ 63:=by rw [sizeLine_eq]; decide
theorem tru_ok : TruR X (fun x H Q=>∃ k,TruV X.K x H k∧Q k H):=by
  intro pins s σ H x v Q I rx h
  obtain ⟨k,e,q⟩:=h
  have hl:=line63
  have hs : sizeLine = 16777216:=sizeLine_eq
  cases x with
  | non =>
    cases rx
    have e' : k = false:=e
    subst e'
    exact truthy_none ⟨H,I,q⟩
  | bl b =>
    cases rx
    have e' : k = b:=e
    subst e'
    exact wpAny_truthy_bool ⟨H,I,q⟩
  | int i =>
    obtain ⟨t,rfl⟩:=rx
    have e' : k = (i != 0):=e
    subst e'
    exact PySem.P.truthy_int ⟨H,I,q⟩
  | str y =>
    obtain ⟨t,rfl⟩:=rx
    obtain ⟨hy,e'⟩ : y.length ≤ sizeLine∧k = ((y.length : Int) != 0):=e
    subst e'
    exact PySem.P.truthy_str (by omega) ⟨H,I.tok _,q⟩
  | byt y =>
    obtain ⟨t,rfl⟩:=rx
    obtain ⟨hy,e'⟩ : y.size ≤ sizeLine∧k = ((y.size : Int) != 0):=e
    subst e'
    exact PySem.W.truthy_bytes (by omega) ⟨H,I.tok _,q⟩
  | ref p =>
    cases rx
    have e' : (∃ xs,SqL X.K H p xs∧k = !xs.isEmpty)∨(∃ xs,SqT X.K H p xs∧k = !xs.isEmpty)∨∃ kvs,H p = some (.dK kvs)∧k = !kvs.isEmpty:=e
    rcases e' with ⟨xs,hx,e'⟩ | ⟨xs,hx,e'⟩ | ⟨kvs,hx,e'⟩
    · subst e'
      obtain ⟨its,r,pl,hz⟩:=I.list hx
      have hlen:=r.length
      exact wpAny_truthy_list pl.isList (by simp only [List.size_toArray]; omega) ⟨H,I.tok _,by rw [isEmpty_of r]; exact q⟩
    · subst e'
      obtain ⟨its,r,pl,hz⟩:=I.tuple hx
      have hlen:=r.length
      exact truthy_tuple pl (by simp only [List.size_toArray]; omega) ⟨H,I.tok _,by rw [isEmpty_of r]; exact q⟩
    · subst e'
      obtain ⟨hz,hS,vs,r,m⟩ : kvs.length ≤ sizeLine∧(p == sysModules) = false∧∃ vs,KV kvs vs∧s.heap.DictOf (mixKind X.prog X.w) p vs:=I.hok p _ hx
      have hlen : kvs.length = vs.length:=Paired.length r
      exact wpAny_truthy_dict hS m (by omega) ⟨H,I.tok _,by rw [isEmpty_kv r]; exact q⟩
  | _=>exact (show False from e).elim
theorem pt_truth (ha : PE X a ta) (he : ∀ whole,isTrue a X.env whole = (do let v ← whole; standAt a.pos; holding [v] (truthy v))) :
    PT X a (fun σ H Q=>ta σ H fun x H'=>∃ k,TruV X.K x H' k∧Q k H'):=by
  intro pins s σ H Q I h
  exact isTrue_plain (thn (ha pins s σ H _ I h) fun v s1 ⟨x,H1,I1,r1,q1⟩=>tru_ok pins s1 σ H1 x v Q I1 r1 q1) (he _)
theorem op_add_str : OpR X (binaryOp .Add) (fun x y H Q=>∃ i j,x = .str i∧y = .str j∧i.length + j.length ≤ sizeLine∧Q (.str (i++j)) H):=by
  intro pins s σ H x y v u Q I rx ry h
  obtain ⟨i,j,rfl,rfl,hz,q⟩:=h
  obtain ⟨t,rfl⟩:=rx
  obtain ⟨t',rfl⟩:=ry
  exact add_str (fun t' tk=>⟨.str (i++j),H,I.tok _,⟨_,rfl⟩,q⟩) hz
theorem iop_add_str : OpR X (inplaceOp .Add) (fun x y H Q=>∃ i j,x = .str i∧y = .str j∧i.length + j.length ≤ sizeLine∧Q (.str (i++j)) H):=by
  intro pins s σ H x y v u Q I rx ry h
  obtain ⟨i,j,rfl,rfl,hz,q⟩:=h
  obtain ⟨t,rfl⟩:=rx
  obtain ⟨t',rfl⟩:=ry
  exact iadd_str (fun t' tk=>⟨.str (i++j),H,I.tok _,⟨_,rfl⟩,q⟩) hz
theorem vals1 {x : V} {us : List Value} (r : Vals [x] us) : ∃ u,us = [u]∧RelV x u:=by
  cases r with
  | cons r1 r2=>cases r2; exact ⟨_,rfl,r1⟩
theorem vals2 {x y : V} {us : List Value} (r : Vals [x,y] us) : ∃ u w',us = [u,w']∧RelV x u∧RelV y w':=by
  cases r with
  | cons r1 r2 =>
    cases r2 with
    | cons r3 r4=>cases r4; exact ⟨_,_,rfl,r1,r3⟩
theorem call_max2 (hc : X.calm = true) : CallR X (.builtin "max") (fun xs H Q=>∃ i j,xs = [.int i,.int j]∧Q (.int (if j > i then j else i)) H):=by
  intro pins s σ H xs us Q I r h
  obtain ⟨i,j,rfl,q⟩:=h
  obtain ⟨u,w',rfl,⟨t,rfl⟩,⟨t',rfl⟩⟩:=vals2 r
  refine max_two_ints (I.ok.hd hc) fun h' tk k=>⟨_,H,I.kept k,?_,q⟩
  by_cases hj : j > i
  · rw [if_pos hj,if_pos hj]; exact ⟨_,rfl⟩
  · rw [if_neg hj,if_neg hj]; exact ⟨_,rfl⟩
theorem call_min2 (hc : X.calm = true) : CallR X (.builtin "min") (fun xs H Q=>∃ i j,xs = [.int i,.int j]∧Q (.int (if j < i then j else i)) H):=by
  intro pins s σ H xs us Q I r h
  obtain ⟨i,j,rfl,q⟩:=h
  obtain ⟨u,w',rfl,⟨t,rfl⟩,⟨t',rfl⟩⟩:=vals2 r
  refine min_two_ints (I.ok.hd hc) fun h' tk k=>⟨_,H,I.kept k,?_,q⟩
  by_cases hj : j < i
  · rw [if_pos hj,if_pos hj]; exact ⟨_,rfl⟩
  · rw [if_neg hj,if_neg hj]; exact ⟨_,rfl⟩
theorem call_int1 : CallR X (.type "int") (fun xs H Q=>(∃ i,xs = [.int i]∧Q (.int i) H)∨∃ k,xs = [.bl k]∧Q (.int (if k then 1 else 0)) H):=by
  intro pins s σ H xs us Q I r h
  rcases h with ⟨i,rfl,q⟩ | ⟨k,rfl,q⟩
  · obtain ⟨u,rfl,t,rfl⟩:=vals1 r
    exact call_int_int ⟨.int i,H,I,⟨_,rfl⟩,q⟩
  · obtain ⟨u,rfl,r1⟩:=vals1 r
    cases r1
    exact call_int_bool ⟨.int (if k then 1 else 0),H,I.tok _,⟨_,rfl⟩,q⟩
theorem call_str_int : CallR X (.type "str") (fun xs H Q=>∃ i,xs = [.int i]∧i.natAbs.log2 < 1920∧Q (.str (toString i)) H):=by
  intro pins s σ H xs us Q I r h
  obtain ⟨i,rfl,hz,q⟩:=h
  obtain ⟨u,rfl,t,rfl⟩:=vals1 r
  exact PySem.P.str_of_int hz ⟨.str _,H,I.tok _,⟨_,rfl⟩,q⟩
end
end L2
namespace L2
open PySem PySem.Spec PyProof.Rows
structure ObjM (h : Heap) (x dx C : Addr) (mA : Str→Option Value) : Prop where
  obj : h.get? x = some (PySem.W.instObj C dx)
  ns : h.Ns1 dx mA
  ne : dx ≠ x
section
variable {prog : Program} {w : World} {A : Around} {E : Value→Shared→Prop} {s : Shared} {K : PySem.W.Frag} {x dx C f : Addr} {mA : Str→Option Value} {name : Str} {v : Value}
end
theorem RelO.some_of {v : V} {o : Option Value} (r : RelO (some v) o) : ∃ u,o = some u∧RelV v u:=by
  cases o with
  | none=>exact (show False from r).elim
  | some u=>exact ⟨u,rfl,r⟩
section
variable {P : Program} {w : World} {H H' : Hp} {h h' : Heap} {a C dx : Addr} {fs fs' : List (Str × V)}
end
structure Cls (K : PySem.W.Frag) (C : Addr) : Prop where
  pg : PySem.W.plainGet K C Str.empty = true
  hd : PySem.W.hasDictIn K C = true
  po : PySem.W.plainOver K C = true
  sa : PySem.W.findIn K (.ref C) "__setattr__" = some (some (.builtin "object.__setattr__"))
theorem Cls.get {K : PySem.W.Frag} {C : Addr} (c : Cls K C) (f : Str) : PySem.W.plainGet K C f = true:=c.pg
structure Con (K : PySem.W.Frag) (C : Addr) (f : Str) (v : V) (u : Value) : Prop where
  at_ : PySem.W.findIn K (.ref C) f = some (some u)
  rel : RelV v u
  get : PySem.W.specialIn K u "__get__" = some none
  cp : PySem.W.copiedNames.contains f = false
structure Meth (K : PySem.W.Frag) (C : Addr) (m : Str) (f : Addr) : Prop where
  at_ : PySem.W.findIn K (.ref C) m = some (some (.ref f))
  fn : PySem.W.isFn K (.ref f) = true
  kp : PySem.W.keepIn K (.ref f) = true
section
variable {X : Cx} {pins : List (Addr × Obj)} {σ : St} {H : Hp} {s : Shared} {a C dx : Addr} {fs : List (Str × V)} {f : Str} {v : V} {A : Around} {E : Value→Shared→Prop}
theorem Inv.made (I : Inv X pins σ H s) : Inv X pins σ (upd (upd H s.heap.objs.size (.own (s.heap.objs.size + 1))) (s.heap.objs.size + 1) (.ins C s.heap.objs.size []))
    { s with heap:=(s.heap.push PySem.W.emptyDict).push (PySem.W.instObj C s.heap.objs.size) }:=by
  have e1 : (s.heap.push PySem.W.emptyDict).get? s.heap.objs.size = some PySem.W.emptyDict:=Heap.get?_push_size s.heap rfl
  have e2 : ((s.heap.push PySem.W.emptyDict).push (PySem.W.instObj C s.heap.objs.size)).get? (s.heap.objs.size + 1) = some (PySem.W.instObj C s.heap.objs.size):=by
    have:=Heap.get?_push_size (s.heap.push PySem.W.emptyDict) (o:=PySem.W.instObj C s.heap.objs.size) rfl
    rwa [Heap.size_push] at this
  have e3 : (s.heap.push PySem.W.emptyDict).Ns s.heap.objs.size (fun _=>none):=⟨PySem.W.emptyDict,#[],_,e1,rfl,(fun e he=>absurd he (by simp)),fun _=>rfl⟩
  have I1:=I.laid (a:=s.heap.objs.size) (o:=.own (s.heap.objs.size + 1)) (h':=s.heap.push PySem.W.emptyDict) (t':=s.toks) (fun b u q=>Heap.get?_push_of_some _ q) (Nat.le_refl _) ⟨_,e1⟩
  refine I1.laid (a:=s.heap.objs.size + 1) (o:=.ins C s.heap.objs.size []) (t':=s.toks) (fun b u q=>Heap.get?_push_of_some _ q) (Nat.le_of_eq (Heap.size_push _ _)) ?_
  have ne : s.heap.objs.size ≠ s.heap.objs.size + 1:=Nat.ne_of_lt (Nat.lt_succ_self _)
  refine ⟨by rw [upd_ne ne,upd_same],Nat.zero_le _,ne,e2,fun _=>none,(Heap.Ns1.of_empty e3).at fun o q=>Heap.get?_push_of_some _ q,fun _=>True.intro,fun y hy=>absurd rfl hy⟩
end
section
variable {X : Cx} {o e value : Expr} {f : Str} {pos pos' tpos : Pos} {ta tv : TE}
end
section
variable {X : Cx} {pins : List (Addr × Obj)} {σ : St} {H : Hp} {s : Shared} {A : Around} {E : Value→Shared→Prop} {Q : Value→Shared→Prop} {c : Value} {b : Bool}
inductive TyOf (K : PySem.W.Frag) (H : Hp) : V→Value→Prop where
  | non : TyOf K H .non (.type "NoneType")
  | bl (x : Bool) : TyOf K H (.bl x) (.type "bool")
  | int (i : Int) : TyOf K H (.int i) (.type "int")
  | str (x : Str) : TyOf K H (.str x) (.type "str")
  | flt (x : UInt64) : TyOf K H (.flt x) (.type "float")
  | lst {a : Addr} {xs : List V} (e : H a = some (.lst xs)) : TyOf K H (.ref a) (.type "list")
  | frz {a : Addr} {o : Obj} {xs : List V} (e : H a = some (.frz o (.lst xs))) : TyOf K H (.ref a) (.type "list")
  | tup {a : Addr} {xs : List V} (e : H a = some (.tup xs)) : TyOf K H (.ref a) (.type "tuple")
  | dK {a : Addr} {kvs : List (Key × V)} (e : H a = some (.dK kvs)) : TyOf K H (.ref a) (.type "dict")
  | dT {a : Addr} {kvs : List (List Key × V)} (e : H a = some (.dT kvs)) : TyOf K H (.ref a) (.type "dict")
  | ins {a C dx : Addr} {fs : List (Str × V)} (e : H a = some (.ins C dx fs)) (cl : Cls K C) (ha : PySem.W.findIn K (.ref C) "__class__" = some (some (.builtin "object.__class__")))
      (hn : PySem.W.specialIn K (.builtin "object.__class__") "__get__" = some (some (.builtin "getset_descriptor.__get__"))) (htk : PySem.W.takesIn K (.builtin "object.__class__") = some true)
      (hm : PySem.W.mroIn K C (.type "object") = some true) : TyOf K H (.ref a) (.ref C)
end
end L2
namespace L2
open PySem PySem.Spec PyProof.Rows
structure Room (k : Nat) (A : Around) : Prop where
  hd : A.handled = none
  dp : A.depth + 3 * k + 5 < recursionLimit
  un : A.units + 16 * k + 200 < cLine
theorem Room.mono {j k : Nat} {A : Around} (r : Room k A) (h : j ≤ k) : Room j A:=⟨r.hd,by have:=r.dp; omega,by have:=r.un; omega⟩
theorem Room.deeper {k : Nat} {A : Around} (r : Room (k + 1) A) (env : Env) : Room k (A.deeper env) :=
  ⟨r.hd,by have:=r.dp; show A.depth + 1 + 3 * k + 5 < _; omega,by have:=r.un; show A.units + 3 + 16 * k + 200 < _; omega⟩
theorem Room.in1 {k : Nat} {A : Around} (r : Room (k + 1) A) : Room k A.in1 :=
  ⟨r.hd,by have:=r.dp; show A.depth + 3 * k + 5 < _; omega,by have:=r.un; show A.units + 1 + 16 * k + 200 < _; omega⟩
theorem Room.depth {k : Nat} {A : Around} (r : Room k A) : A.depth < recursionLimit:=by have:=r.dp; omega
theorem Room.units {k : Nat} {A : Around} (r : Room k A) : A.units + 64 < cLine:=by have:=r.un; omega
def tNil : TA:=fun _ H Q=>Q [] H
def tCons (ta : TE) (tr : TA) : TA:=fun σ H Q=>ta σ H fun x H1=>tr σ H1 fun xs H2=>Q (x::xs) H2
section
variable {X : Cx} {e : Expr} {es : List Expr} {te : TE} {t : TA} {pos : Pos}
theorem pa_nil : PA X [] tNil:=fun _ _ _ _ H Q I h=>Calls.spliced_nil ⟨[],H,I,.nil,h⟩
theorem pa_cons (ha : PE X e te) (hr : PA X es t) (hs : starEach (e::es) X.env = (false,eval e X.env)::starEach es X.env:=by rfl) : PA X (e::es) (tCons te t):=by
  intro pos pins s σ H Q I h
  rw [hs]
  show wpAny _ _ (spliced ((false,eval e X.env)::backTo pos (starEach es X.env))) _ _ s
  refine Calls.spliced_cons (thn (ha pins s σ H _ I h) fun u s1 ⟨x,H1,I1,r1,q1⟩=>?_)
  exact thn (hr pos pins s1 σ H1 _ I1 q1) fun us s2 ⟨xs,H2,I2,r2,q2⟩=>⟨x::xs,H2,I2,.cons r1 r2,q2⟩
def tTup (t : TA) : TE:=fun σ H Q=>t σ H fun xs H1=>xs.length ≤ sizeLine∧∀ p,H1 p = none→Q (.ref p) (upd H1 p (.tup xs))
def tLst (t : TA) : TE:=fun σ H Q=>t σ H fun xs H1=>xs.length ≤ sizeLine∧∀ p,H1 p = none→Q (.ref p) (upd H1 p (.lst xs))
theorem pe_tup {x1} (h : PA X es t) : PE X (.Tuple es x1 pos) (tTup t):=by
  intro pins s σ H Q I hq
  refine wpAny_Tuple_spliced (thn (h pos pins s σ H _ I hq) fun us s1 ⟨xs,H1,I1,r,z,q⟩=>⟨by rw [← r.length]; exact z,?_⟩)
  have hf : H1 s1.heap.objs.size = none:=I1.hok.fresh (Nat.le_refl _)
  refine ⟨.ref s1.heap.objs.size,upd H1 s1.heap.objs.size (.tup xs),I1.laid (t':=s1.toks) (fun b u e=>Heap.get?_push_of_some _ e) (Nat.le_refl _) ?_,rfl,q _ hf⟩
  exact ⟨z,us,r,⟨_,Heap.get?_push_size _ rfl,rfl,_,rfl⟩⟩
theorem pe_lst (h : PA X es t) : PE X (.List es pos) (tLst t):=by
  intro pins s σ H Q I hq
  refine wpAny_List_spliced (thn (h pos pins s σ H _ I hq) fun us s1 ⟨xs,H1,I1,r,z,q⟩=>⟨by rw [← r.length]; exact z,?_⟩)
  have hf : H1 s1.heap.objs.size = none:=I1.hok.fresh (Nat.le_refl _)
  refine ⟨.ref s1.heap.objs.size,upd H1 s1.heap.objs.size (.lst xs),I1.laid (t':=s1.toks) (fun b u e=>Heap.get?_push_of_some _ e) (Nat.le_refl _) ?_,rfl,q _ hf⟩
  exact ⟨z,us,0,r,Heap.get?_push_size _ rfl⟩
end
abbrev Sp:=List V→Hp→VK→XK→Prop
abbrev CXT:=List Env→Hp→Shared→XK→Value→Shared→Prop
structure Env0 (P : Program) (w : World) (K : PySem.W.Frag) (mg : Str→Option Value) (base : Heap) (A : Around) (outer : List Env) (s : Shared) (H : Hp) : Prop where
  frames : A.frames = some outer
  mod : Mod K mg base
  bs : ∀ b o,base.get? b = some o→s.heap.get? b = some o∧H b = none
  bsz : base.objs.size ≤ s.heap.objs.size
  funs : s.heap.FunFrames base outer
  frf : ∀ b ∈ frs outer,H b = none
  hok : HOk P w H s.heap
  bare : AllBare s.gens
def CE (outer : List Env) (P : Program) (w : World) (H : Hp) (s : Shared) (Q : VK) (u : Value) (s' : Shared) : Prop :=
  ∃ v H',s'.os = s.os∧AllBare s'.gens∧Un (frs outer) [] H H' s.heap s'.heap∧HOk P w H' s'.heap∧RelV v u∧Q v H'
def CR (CX : CXT) (outer : List Env) (P : Program) (w : World) (H : Hp) (s : Shared) (Q : VK) (E : XK) (r : Result) (s' : Shared) : Prop :=
  match r with
  | .ok (.ret u)=>CE outer P w H s Q u s'
  | .ok _=>False
  | .error e=>CX outer H s E e s'
structure FnOk (P : Program) (w : World) (K : PySem.W.Frag) (mg : Str→Option Value) (base : Heap) (CX : CXT) (k : Nat) (f : Addr) (fd : FuncData) (ps : List Str) (sp : Sp) : Prop where
  len : ∀ vs H Q E,sp vs H Q E→vs.length = ps.length
  run : ∀ (A : Around) (outer : List Env) (s : Shared) (H : Hp) (args : Args) (us : List Value) (vs : List V) (Q : VK) (E : XK),Room k A→Env0 P w K mg base A outer s H→BindsTo s fd args (ps.zip us)→Vals vs us→sp vs H Q E →
    codeAny (model P w) A (.call (.ref f) args) (CR CX outer P w H s Q E) s
theorem FnOk.mono {P : Program} {w : World} {K : PySem.W.Frag} {mg : Str→Option Value} {base : Heap} {CX : CXT} {j k : Nat} {f : Addr} {fd : FuncData} {ps : List Str} {sp : Sp} (F : FnOk P w K mg base CX j f fd ps sp) (h : j ≤ k) :
    FnOk P w K mg base CX k f fd ps sp:=⟨F.len,fun A outer s H args us vs Q E hr=>F.run A outer s H args us vs Q E (hr.mono h)⟩
theorem FnOk.imp {P : Program} {w : World} {K : PySem.W.Frag} {mg : Str→Option Value} {base : Heap} {CX : CXT} {k : Nat} {f : Addr} {fd : FuncData} {ps : List Str} {sp sp' : Sp} (F : FnOk P w K mg base CX k f fd ps sp)
    (h : ∀ vs H Q E,sp' vs H Q E→sp vs H Q E) : FnOk P w K mg base CX k f fd ps sp' :=
  ⟨fun vs H Q E q=>F.len vs H Q E (h _ _ _ _ q),fun A outer s H args us vs Q E hr he hb hv hs=>F.run A outer s H args us vs Q E hr he hb hv (h _ _ _ _ hs)⟩
theorem Env0.in1 {P : Program} {w : World} {K : PySem.W.Frag} {mg : Str→Option Value} {base : Heap} {A : Around} {outer : List Env} {s : Shared} {H : Hp} (e : Env0 P w K mg base A outer s H) :
    Env0 P w K mg base A.in1 outer s H:=⟨e.frames,e.mod,e.bs,e.bsz,e.funs,e.frf,e.hok,e.bare⟩
section
variable {X : Cx} {pins : List (Addr × Obj)} {σ : St} {H : Hp} {s s' : Shared}
theorem Inv.env0 (I : Inv X pins σ H s) : Env0 X.prog X.w X.K X.mg X.base X.A X.stack s H :=
  ⟨I.ok.frames,I.ok.mod,I.bs,Nat.le_trans I.ok.bsz I.sz,I.stack,I.stkFree,I.hok,I.bare⟩
theorem Inv.after {Q : VK} {u : Value} (I : Inv X pins σ H s) (h : CE X.stack X.prog X.w H s Q u s') : EP X pins σ Q u s':=by
  obtain ⟨v,H',os,bare,un,hok,r,q⟩:=h
  obtain ⟨hh,g,d,t,os'⟩:=s'
  obtain rfl : os' = s.os:=os
  exact ⟨v,H',I.call (h':=hh) (g':=g) (d':=d) (t':=t) (ch:=[]) un hok bare (fun b z=>absurd z (by simp)),r,q⟩
end
def tCall (sp : Sp) (dvs : List V) (E : XK) (t : TA) : TE:=fun σ H Q=>t σ H fun vs H1=>sp (vs++dvs) H1 Q E
def Binds (K : PySem.W.Frag) (fd : FuncData) (ps : List Str) (ds : List Value) : Prop :=
  ∀ (s : Shared) (us : List Value),K.In s.heap→(us++ds).length = ps.length→BindsTo s fd ⟨us,[]⟩ (ps.zip (us++ds))
theorem Binds.all {K : PySem.W.Frag} {fd : FuncData} {ps : List Str} (h : ∀ us : List Value,us.length = ps.length→bindArgs fd ⟨us,[]⟩ = pure (ps.zip us)) : Binds K fd ps []:=fun s us _ hl=>by
  rw [List.append_nil] at hl ⊢
  exact .of_eq (h us hl)
def Passes (CX : CXT) (X : Cx) (E : XK) : Prop:=∀ (pins : List (Addr × Obj)) (σ : St) (H : Hp) (s : Shared) (e : Value) (s' : Shared),Inv X pins σ H s→CX X.stack H s E e s'→X.xe e s'
section
variable {X : Cx} {CX : CXT} {k : Nat} {f C : Addr} {fd : FuncData} {ps : List Str} {sp : Sp} {dvs : List V} {ds : List Value} {E : XK} {x m : Str} {p pos apos : Pos} {e o : Expr} {es : List Expr} {ta : TE} {t : TA}
theorem run_fn {pins : List (Addr × Obj)} {σ : St} {H : Hp} {s : Shared} {Q : VK} {us : List Value} {vs : List V} (F : FnOk X.prog X.w X.K X.mg X.base CX k f fd ps sp) (hr : Room k X.A) (hb : Binds X.K fd ps ds) (hd : Vals dvs ds) (hx : Passes CX X E)
    (I : Inv X pins σ H s) (r : Vals vs us) (h : sp (vs++dvs) H Q E) : wpAny (model X.prog X.w) X.A (call (.ref f) us) (EP X pins σ Q) X.xe s:=by
  have r2 : Vals (vs++dvs) (us++ds):=r.append hd
  have hl : (us++ds).length = ps.length:=by rw [← r2.length]; exact F.len _ _ _ _ h
  refine wpAny_call (codeAny_mono (F.run X.A X.stack s H ⟨us,[]⟩ (us++ds) (vs++dvs) Q E hr I.env0 (hb s us I.kIn hl) r2 h) fun r s' hq=>?_)
  cases r with
  | error e=>exact hx pins σ H s e s' I hq
  | ok fl =>
    cases fl with
    | ret u=>exact I.after hq
    | next=>exact False.elim hq
    | brk=>exact False.elim hq
    | cont=>exact False.elim hq
theorem pe_call (F : FnOk X.prog X.w X.K X.mg X.base CX k f fd ps sp) (hr : Room k X.A) (hg : Gl X x) (hm : X.mg x = some (.ref f)) (hk : PySem.W.keepIn X.K (.ref f) = true) (hb : Binds X.K fd ps ds) (hd : Vals dvs ds) (hx : Passes CX X E)
    (ha : PA X (e::es) t) (hdb : (x == ("__debug__" : Str)) = false:=by decide) (he : starEach (e::es) X.env = (false,eval e X.env)::starEach es X.env:=by rfl) (hpl : (backTo pos (starEach es X.env)).any (·.1) = false:=by rfl) :
    PE X (.Call (.Name x p) (e::es) [] pos) (tCall sp dvs E t):=by
  intro pins s σ H Q I h
  refine wpAny_Call_Name_kw (ld_glob I hg hm ?_ hdb)
  refine PySem.W.callWith_K (h₀:=X.base) I.ok.mod.kin hk (thn (ha pos pins s σ H _ I h) fun us s1 ⟨vs,H1,I1,r,q⟩=>⟨I1.kIn,?_⟩) he hpl
  exact run_fn F hr hb hd hx I1 r q
structure Mk (K : PySem.W.Frag) (C f : Addr) : Prop where
  makes : PySem.W.makesIn K C = true
  init : PySem.W.findIn K (.ref C) "__init__" = some (some (.ref f))
  fn : PySem.W.isFn K (.ref f) = true
  kp : PySem.W.keepIn K (.ref C) = true
end
section
variable {X : Cx} {CX : CXT} {k : Nat} {f C : Addr} {fd : FuncData} {ps ks : List Str} {sp : Sp} {E : XK} {x m : Str} {p pos apos kpos : Pos} {e o : Expr} {es : List Expr} {kws : List Keyword} {te ta : TE} {t tk : TA} {nm : Option Str}
structure KBinds (K : PySem.W.Frag) (fd : FuncData) (ps ks : List Str) (g : List Value→List Value→List Value) (gV : List V→List V→List V) : Prop where
  to : ∀ (s : Shared) (us ws : List Value),K.In s.heap→(g us ws).length = ps.length→BindsTo s fd ⟨us,ks.zip ws⟩ (ps.zip (g us ws))
  rel : ∀ {vs : List V} {us : List Value} {zs : List V} {ws : List Value},Vals vs us→Vals zs ws→Vals (gV vs zs) (g us ws)
variable {g : List Value→List Value→List Value} {gV : List V→List V→List V}
end
structure FnScope (N P : List Str) (sc : Scope) : Prop where
  kind : sc.kind = .function
  co : sc.isCoroutine = false
  gen : sc.isGenerator = false
  nd : N.Nodup
  pre : N.take P.length = P
  par : ∀ x ∈ P,sc.names.lookup x = some .local∨sc.names.lookup x = some .cell
  nofree : ∀ y ∈ sc.names,y.2 ≠ .free
theorem bindL_out {kindOf : Str→Option NameKind} {x : Str} : ∀ {binds : List (Str × Value)} {m : Str→Option Value},(∀ v,(x,v) ∉ binds)→bindL kindOf binds m x = m x
  | [],_,_=>rfl
  | (n,v)::r,m,h=>by
    unfold bindL
    rw [bindL_out fun w hw=>h w (List.mem_cons_of_mem _ hw)]
    split
    · have : x ≠ n:=by rintro rfl; exact h v List.mem_cons_self
      simp [this]
    · rfl
theorem bindC_out {kindOf : Str→Option NameKind} {x : Str} : ∀ {binds : List (Str × Value)} {m : Str→Option Value},(∀ v,(x,v) ∉ binds)→bindC kindOf binds m x = m x
  | [],_,_=>rfl
  | (n,v)::r,m,h=>by
    unfold bindC
    rw [bindC_out fun w hw=>h w (List.mem_cons_of_mem _ hw)]
    split
    · rfl
    · have : x ≠ n:=by rintro rfl; exact h v List.mem_cons_self
      simp [this]
theorem bindL_get {kindOf : Str→Option NameKind} {x : Str} {v : Value} : ∀ {P : List Str} {vs : List Value} {i : Nat} {m : Str→Option Value},P.Nodup→P[i]? = some x→vs[i]? = some v→kindOf x = some .local →
    bindL kindOf (P.zip vs) m x = some v
  | [],_,_,_,_,h,_,_=>by simp at h
  | _::_,[],_,_,_,_,h,_=>by simp at h
  | p::P,w::vs,0,m,nd,h1,h2,hk=>by
    simp at h1 h2; subst h1; subst h2
    show bindL kindOf ((p,w)::P.zip vs) m p = _
    unfold bindL
    rw [bindL_out fun v hv=>(List.nodup_cons.mp nd).1 (List.of_mem_zip hv).1,if_pos hk]
    simp
  | p::P,w::vs,i + 1,m,nd,h1,h2,hk=>by
    show bindL kindOf ((p,w)::P.zip vs) m x = _
    unfold bindL
    exact bindL_get (i:=i) (List.nodup_cons.mp nd).2 (by simpa using h1) (by simpa using h2) hk
theorem bindC_get {kindOf : Str→Option NameKind} {x : Str} {v : Value} : ∀ {P : List Str} {vs : List Value} {i : Nat} {m : Str→Option Value},P.Nodup→P[i]? = some x→vs[i]? = some v→kindOf x ≠ some .local →
    bindC kindOf (P.zip vs) m x = some v
  | [],_,_,_,_,h,_,_=>by simp at h
  | _::_,[],_,_,_,_,h,_=>by simp at h
  | p::P,w::vs,0,m,nd,h1,h2,hk=>by
    simp at h1 h2; subst h1; subst h2
    show bindC kindOf ((p,w)::P.zip vs) m p = _
    unfold bindC
    rw [bindC_out fun v hv=>(List.nodup_cons.mp nd).1 (List.of_mem_zip hv).1,if_neg hk]
    simp
  | p::P,w::vs,i + 1,m,nd,h1,h2,hk=>by
    show bindC kindOf ((p,w)::P.zip vs) m x = _
    unfold bindC
    exact bindC_get (i:=i) (List.nodup_cons.mp nd).2 (by simpa using h1) (by simpa using h2) hk
def start (N : List Str) (vs : List V) : St:=vs.map some++List.replicate (N.length - vs.length) none
def cxOf (CX : CXT) (P : Program) (w : World) (K : PySem.W.Frag) (mg : Str→Option Value) (base : Heap) (N : List Str) (qual : Str) (scope : Scope) (f : Addr) (cd : Value) (A : Around) (outer : List Env) (s : Shared) (H : Hp) (E : XK) : Cx where
  prog:=P
  w:=w
  K:=K
  mg:=mg
  base:=base
  A:=A.deeper (envOfC qual scope s.heap.objs.size f cd)
  N:=N
  s₀:=s
  H₀:=H
  env:=envOfC qual scope s.heap.objs.size f cd
  outer:=outer
  stack:=envOfC qual scope s.heap.objs.size f cd::outer
  ex:=[]
  calm:=true
  fn:=fun _=>true
  pn:=[]
  xe:=fun e s'=>wpAny (model P w) (A.deeper (envOfC qual scope s.heap.objs.size f cd)) (leaving (envOfC qual scope s.heap.objs.size f cd) e) (fun _ s''=>CX outer H s E e s'') (fun e' s''=>CX outer H s E e' s'') s'
theorem cell_has {sc : Scope} {n : Nat} {x : Str} (h : sc.names.lookup x = some .cell) : ∃ c,(cellsFrom n sc.names []).lookup x = some c:=by
  have q:=PySem.W.cellsFrom_some sc.names n [] (.inl h)
  exact Option.isSome_iff_exists.mp q
theorem inv_start {CX : CXT} {P : Program} {w : World} {K : PySem.W.Frag} {mg : Str→Option Value} {base : Heap} {N ps : List Str} {qual : Str} {scope : Scope} {f : Addr} {cd : Value} {A : Around} {outer : List Env} {s s1 : Shared} {H : Hp} {E : XK} {us : List Value} {vs : List V}
    (S : FnScope N ps scope) (hd : A.handled = none) (e0 : Env0 P w K mg base A outer s H) (hl : vs.length = ps.length) (r : Vals vs us)
    (x : InCallC s s.heap.objs.size (bindL (envOfC qual scope s.heap.objs.size f cd).kindOf (ps.zip us) fun _=>none) (cellsFrom (s.heap.objs.size + 1) scope.names []) (bindC (envOfC qual scope s.heap.objs.size f cd).kindOf (ps.zip us) fun _=>none) s1) :
    Inv (cxOf CX P w K mg base N qual scope f cd A outer s H E) [] (start N vs) H s1:=by
  have hpl : ps.length ≤ N.length:=by have:=congrArg List.length S.pre; rw [List.length_take] at this; omega
  obtain ⟨h1,tk,rfl,hk⟩:=x.done
  have noA : ∀ b : Addr,b ∉ (cxOf CX P w K mg base N qual scope f cd A outer s H E).ex:=fun b z=>absurd (show b ∈ ([] : List Addr) from z) (by simp)
  refine ⟨⟨e0.mod,S.kind,rfl,rfl,Nat.le_refl _,fun y z c h1 h2=>?_,fun y hy=>?_,fun y c _ h=>?_,fun _=>hd,Around.frames_deeper e0.frames,.inr ⟨rfl,rfl⟩,fun b z=>absurd z (noA b),e0.bs,e0.bsz,fun b _ _=>noA b,fun b z=>absurd z (noA b),e0.funs,e0.frf⟩,
    rfl,e0.bare,Un.kept hk,⟨_,x.toInCall.ns,fun i y v h1 h2 h3=>?_⟩,fun y c h=>⟨_,x.cell y c h⟩,e0.hok.fresh (Nat.le_refl _),fun y c h=>?_,fun p hp=>absurd (show p ∈ ([] : List (Addr × Obj)) from hp) (by simp),e0.hok.kept hk,?_⟩
  · exact name_of_addr x.apart (PySem.mem_of_lookup h1) (PySem.mem_of_lookup h2)
  · have hy : scope.names.lookup y = some .cell∨scope.names.lookup y = some .free:=hy
    rcases hy with hy | hy
    · exact cell_has hy
    · exact absurd rfl (S.nofree _ (PySem.mem_of_lookup hy))
  · exact Nat.le_of_lt (x.above y c (PySem.mem_of_lookup h))
  · have hi : i < vs.length:=by
      unfold start at h2
      by_cases hi : i < vs.length
      · exact hi
      · rw [List.getElem?_append_right (by simpa using hi)] at h2
        rw [List.getElem?_replicate] at h2
        split at h2 <;> cases h2
    have ha : vs[i]? = some v:=by
      unfold start at h2
      rw [List.getElem?_append_left (by simpa using hi),List.getElem?_map] at h2
      cases e : vs[i]? with
      | none=>rw [e] at h2; cases h2
      | some a=>rw [e] at h2; cases h2; rfl
    obtain ⟨u,hu,rv⟩:=r.get ha
    have hp : ps[i]? = some y:=by
      rw [← S.pre,List.getElem?_take_of_lt (by omega)]; exact h1
    have ndP : ps.Nodup:=by rw [← S.pre]; exact S.nd.sublist (List.take_sublist _ _)
    refine ⟨u,rv,?_⟩
    rcases S.par y (List.mem_of_getElem? hp) with k | k
    · exact .inl ⟨k,bindL_get ndP hp hu k⟩
    · obtain ⟨c,e⟩:=cell_has (n:=s.heap.objs.size + 1) k
      refine .inr ⟨.inl k,c,e,?_⟩
      have q:=x.cell y c e
      rw [bindC_get ndP hp hu (by show scope.names.lookup y ≠ _; rw [k]; decide)] at q
      exact q
  · exact e0.hok.fresh (Nat.le_of_lt (x.above y c (PySem.mem_of_lookup h)))
  · unfold start
    show _ = N.length
    rw [List.length_append,List.length_map,List.length_replicate]
    omega
theorem fn_of {CX : CXT} {P : Program} {w : World} {K : PySem.W.Frag} {mg : Str→Option Value} {base : Heap} {k : Nat} {f : Addr} {name qual : Str} {params : Arguments} {body : List Stmt} {scope : Scope} {dV kV doc pm cdv ct oc : Value} {an od : Option Addr}
    {osl : Array (Option Value)} {N ps : List Str} {sp : Sp} (lk : K.lookup f = some ⟨oc,od,.func (PySem.W.fnOf name qual params body scope dV kV doc pm an cdv ct),osl⟩) (hcd : PySem.W.codeIn K cdv qual = true) (S : FnScope N ps scope)
    (len : ∀ vs H Q E,sp vs H Q E→vs.length = ps.length)
    (hbody : ∀ (A : Around) (outer : List Env) (s : Shared) (H : Hp) (vs : List V) (Q : VK) (E : XK),Room k (A.deeper (envOfC qual scope s.heap.objs.size f cdv))→sp vs H Q E →
      ∃ t,PSs (cxOf CX P w K mg base N qual scope f cdv A outer s H E) body t∧t { nx:=fun _ H'=>Q .non H',rt:=Q } (start N vs) H) :
    FnOk P w K mg base CX (k + 1) f (PySem.W.fnOf name qual params body scope dV kV doc pm an cdv ct) ps sp:=by
  refine ⟨len,fun A outer s H args us vs Q E hr e0 hb r hsp=>?_⟩
  have hl:=len _ _ _ _ hsp
  have KX : K.In s.heap:=e0.mod.kin.keeps fun b o e=>(e0.bs b o e).1
  have lim : s.heap.NoLimit:=e0.mod.nolimit.keeps fun b o e=>(e0.bs b o e).1
  have hkind : ∀ y ∈ ps.zip us,scope.names.lookup y.1 = some .local∨(scope.names.lookup y.1 = some .cell∧((cellsFrom (s.heap.objs.size + 1) scope.names []).lookup y.1).isSome = true):=fun ⟨n,v⟩ hy=>by
    rcases S.par n (List.of_mem_zip hy).1 with q | q
    · exact .inl q
    · exact .inr ⟨q,PySem.W.cellsFrom_some _ _ _ (.inl q)⟩
  refine codeAny_call_function hr.depth (KX _ _ lk) rfl S.co S.gen rfl (PySem.W.codeRec_of KX hcd) (hb _ _ _ _ ?_)
  refine wpAny_newFunctionEnv_cells S.kind hkind fun env he s1 x=>?_
  subst he
  refine ⟨lim.keeps x.toInCall.keep,codeAny_func ?_⟩
  obtain ⟨t,ht,hq⟩:=hbody A outer s H vs Q E (hr.deeper _) hsp
  have I : Inv (cxOf CX P w K mg base N qual scope f cdv A outer s H E) [] (start N vs) H s1:=inv_start S hr.hd e0 hl r x
  refine wpAny_mono (ht [] s1 (start N vs) H _ I hq) (fun fl s' hs=>?_) fun e s' hs=>hs
  have fin : ∀ {σ' : St} {H' : Hp} {v : V} {u : Value},Inv (cxOf CX P w K mg base N qual scope f cdv A outer s H E) [] σ' H' s'→RelV v u→Q v H'→CE outer P w H s Q u s' :=
    fun {σ' H' v u} J rv q=>⟨v,H',J.os,J.bare,J.base,J.hok,rv,q⟩
  cases fl with
  | ret u =>
    obtain ⟨v,σ',H',J,rv,q⟩:=hs
    exact fin J rv q
  | next =>
    obtain ⟨σ',H',J,q⟩:=hs
    exact fin (v:=V.non) (u:=Value.none) J rfl q
  | brk =>
    obtain ⟨_,_,_,q⟩:=hs
    exact False.elim q
  | cont =>
    obtain ⟨_,_,_,q⟩:=hs
    exact False.elim q
end L2
namespace L2
open PySem PySem.Spec PyProof.Rows
section
variable {X : Cx} {x : Str} {p pos : Pos} {e : Expr} {es : List Expr} {t : TA} {id T : String} {r : List V→Hp→VK→Prop}
def tCB (r : List V→Hp→VK→Prop) (t : TA) : TE:=fun σ H Q=>t σ H fun vs H1=>r vs H1 Q
theorem pe_callB (hc : CallR X (.builtin id) r) (hg : Gl X x) (hm : X.mg x = none) (hv : bootBuiltins x = some (.builtin id)) (ha : PA X (e::es) t) (hn : x ≠ "__name__":=by decide) (hdb : (x == ("__debug__" : Str)) = false:=by decide)
    (he : starEach (e::es) X.env = (false,eval e X.env)::starEach es X.env:=by rfl) (hpl : (backTo pos (starEach es X.env)).any (·.1) = false:=by rfl) : PE X (.Call (.Name x p) (e::es) [] pos) (tCB r t):=by
  intro pins s σ H Q I h
  refine wpAny_Call_Name_kw (ld_blt I hg hm hv ?_ hn hdb)
  exact PyProof.Rows.callWith_builtin1 (thn (ha pos pins s σ H _ I h) fun us s1 ⟨vs,H1,I1,r1,q1⟩=>hc pins s1 σ H1 vs us Q I1 r1 q1) he hpl
theorem pe_callTy (hc : CallR X (.type T) r) (hg : Gl X x) (hm : X.mg x = none) (hv : bootBuiltins x = some (.type T)) (ha : PA X (e::es) t) (hn : x ≠ "__name__":=by decide) (hdb : (x == ("__debug__" : Str)) = false:=by decide)
    (he : starEach (e::es) X.env = (false,eval e X.env)::starEach es X.env:=by rfl) (hpl : (backTo pos (starEach es X.env)).any (·.1) = false:=by rfl) : PE X (.Call (.Name x p) (e::es) [] pos) (tCB r t):=by
  intro pins s σ H Q I h
  refine wpAny_Call_Name_kw (ld_blt I hg hm hv ?_ hn hdb)
  exact PyProof.Rows.callWith_type1 (thn (ha pos pins s σ H _ I h) fun us s1 ⟨vs,H1,I1,r1,q1⟩=>hc pins s1 σ H1 vs us Q I1 r1 q1) he hpl
end
end L2
namespace HT
open PySem PyProof.Rows
section
open PySem.SeqAt
open PySem.AutoSeq1 (wpAny_loadPart')
open PySem.MeetsSeq PySem.MeetsSeq2 PySem.MeetsSeq3
end
section
variable {prog : Program} {w : World} {A : Around} {E : Value→Shared→Prop} {s : Shared}
theorem cat_tup {t b : Addr} {vs ws : List Value} {Q : Value→Shared→Prop} (ht : IsTup s.heap t vs.toArray) (hb : IsTup s.heap b ws.toArray) (hv : vs ≠ [])
    (h1 : ws = []→Q (.ref t) s) (h2 : ws ≠ []→Q (.ref s.heap.objs.size) { s with heap:=s.heap.push { cls:=.type "tuple",data:=.seq (vs++ws).toArray } })
    (hsz : vs.length + ws.length ≤ sizeLine) : wpAny (model prog w) A (binaryOp .Add (.ref t) (.ref b)) Q E s:=by
  obtain ⟨⟨cls,dd,data,sl⟩,ho,hc,n,hd⟩:=id ht
  obtain ⟨⟨cls2,dd2,data2,sl2⟩,ho2,hc2,n2,hd2⟩:=id hb
  simp only at hc hd hc2 hd2
  subst hc hd hc2 hd2
  have e : vs.toArray++ws.toArray = (vs++ws).toArray:=by simp
  by_cases hw : ws = []
  · exact concat_meets ⟨_,ho,rfl⟩ ⟨_,ho2,rfl⟩ noFill_tuple_add seq_tuple_add PySem.F.slot_tuple_add PySem.F.entry_tuple_add (PySem.F.args_tuple_add_2 _ _)
      (tuple_addW1 t b vs.toArray ws.toArray n n2 dd dd2 sl sl2 (by simpa using hv) (by simp [hw])) ⟨ho,ho2,h1 hw⟩
  · refine concat_meets ⟨_,ho,rfl⟩ ⟨_,ho2,rfl⟩ noFill_tuple_add seq_tuple_add PySem.F.slot_tuple_add PySem.F.entry_tuple_add (PySem.F.args_tuple_add_2 _ _)
      (tuple_addW2 t b vs.toArray ws.toArray n n2 dd dd2 sl sl2 (by simpa using hv) (by simpa using hw) (by rw [List.size_toArray,List.size_toArray]; exact hsz)) ⟨ho,ho2,?_⟩
    rw [e]
    exact h2 hw
def sIx (n d : Nat) : Option Int→Nat
  | none=>d
  | some v=>if v < 0 then (v + (n : Int)).toNat else min v.toNat n
theorem sIx_le (n d : Nat) (hd : d ≤ n) (o : Option Int) : sIx n d o ≤ n:=by
  cases o with
  | none=>exact hd
  | some v =>
    show (if v < 0 then (v + (n : Int)).toNat else min v.toNat n) ≤ n
    by_cases hv : v < 0
    · rw [if_pos hv]; omega
    · rw [if_neg hv]; exact Nat.min_le_right _ _
theorem clip_eq (v : Int) (n d : Nat) : (if v < 0 then max (v + (n : Int)) 0 else min v (n : Int)) = ((sIx n d (some v) : Nat) : Int):=by
  show (if v < 0 then max (v + (n : Int)) 0 else min v (n : Int)) = (((if v < 0 then (v + (n : Int)).toNat else min v.toNat n) : Nat) : Int)
  by_cases hv : v < 0
  · simp only [if_pos hv]; omega
  · simp only [if_neg hv]; omega
theorem adjust_gen (lo hi : Option Int) (n : Nat) : Builtin.Slice.sliceAdjust lo hi 1 (n : Int) = (((sIx n 0 lo : Nat) : Int),((sIx n n hi : Nat) : Int)):=by
  have h1 : ¬ ((1 : Int) < 0):=by omega
  unfold Builtin.Slice.sliceAdjust
  simp only [h1,if_false]
  refine Prod.ext ?_ ?_
  · cases lo with
    | none=>rfl
    | some v=>exact clip_eq v n 0
  · cases hi with
    | none=>rfl
    | some v=>exact clip_eq v n n
theorem places_gen (i j : Nat) : Builtin.Slice.slicePlaces (i : Int) (j : Int) 1 = j - i:=by
  unfold Builtin.Slice.slicePlaces
  have h1 : (1 : Int) > 0:=by omega
  simp only [h1,if_true,Int.ediv_one]
  split <;> omega
theorem slicePart_ {v : Value} {o : Option Int} {Q : Option Int→Shared→Prop} (p : IsPart v o) (h : Q o s) : wpAny (model prog w) A (Builtin.Slice.slicePartIndex v) Q E s:=by
  cases p with
  | none=>exact slicePart_none h
  | int i t=>exact slicePart_int h
theorem sliceApplied_gen {sl : Addr} {vl vu : Value} {lo hi : Option Int} {n : Nat} {Q : Int × Int × Nat→Shared→Prop} (hs : s.heap.IsSliceOf sl vl vu .none) (pl : IsPart vl lo) (pu : IsPart vu hi)
    (h : Q (((sIx n 0 lo : Nat) : Int),1,sIx n n hi - sIx n 0 lo) s) : wpAny (model prog w) A (Builtin.Slice.sliceApplied (.ref sl) (pure (n : Int))) Q E s:=by
  obtain ⟨os,hos,hcs,hds⟩:=id hs
  unfold Builtin.Slice.sliceApplied Builtin.Slice.sliceFields
  refine wpAny_bind (wpAny_bind (wpAny_field hos hds (x:=vl) rfl (wpAny_bind (wpAny_field hos hds (x:=vu) rfl (wpAny_bind (wpAny_field hos hds (x:=.none) rfl (wpAny_pure ?_)))))))
  refine wpAny_bind (slicePart_none ?_)
  show wpAny _ _ (if ((1 : Int) == 0) = true then _ else _) _ _ s
  rw [if_neg (by decide)]
  refine wpAny_bind (slicePart_ pl (wpAny_bind (slicePart_ pu (wpAny_bind (wpAny_pure ?_)))))
  show wpAny _ _ (match Builtin.Slice.sliceAdjust lo hi 1 (n : Int) with | (lo,hi)=>pure (lo,(1 : Int),Builtin.Slice.slicePlaces lo hi 1)) _ _ s
  rw [adjust_gen lo hi n]
  show wpAny _ _ (pure (((sIx n 0 lo : Nat) : Int),(1 : Int),Builtin.Slice.slicePlaces ((sIx n 0 lo : Nat) : Int) ((sIx n n hi : Nat) : Int) 1)) _ _ s
  rw [places_gen]
  exact wpAny_pure h
theorem pick_gen (xs : Array Value) (i k : Nat) : ((List.range k).filterMap fun (m : Nat)=>xs[((i : Int) + (m : Int) * 1).toNat]?).toArray = ((xs.toList.drop i).take k).toArray:=by
  have e : (fun (m : Nat)=>xs[((i : Int) + (m : Int) * 1).toNat]?) = fun m=>xs[i + m]?:=by
    funext m
    have : ((i : Int) + (m : Int) * 1).toNat = i + m:=by omega
    rw [this]
  rw [e]
  have:=pick_run xs i k
  rw [List.filterMap_map] at this
  have e2 : ((fun x=>xs[x]?) ∘ fun x=>i + x) = fun m=>xs[i + m]?:=rfl
  rw [e2] at this
  rw [this]
theorem getItem_tuple_cut {t sl : Addr} {items : Array Value} {vl vu : Value} {lo hi : Option Int} {Q : Value→Shared→Prop} (ht : IsTup s.heap t items) (hs : s.heap.IsSliceOf sl vl vu .none) (pl : IsPart vl lo) (pu : IsPart vu hi)
    (hw : ¬ (sIx items.size 0 lo = 0∧sIx items.size items.size hi = items.size))
    (h : Q (.ref s.heap.objs.size) { s with heap:=s.heap.push { cls:=.type "tuple",data:=.seq ((items.toList.drop (sIx items.size 0 lo)).take (sIx items.size items.size hi - sIx items.size 0 lo)).toArray } })
    (hsz : items.size ≤ sizeLine) : wpAny (model prog w) A (getItem (.ref t) (.ref sl)) Q E s:=by
  have htake : sizeOk (.seq ((items.toList.drop (sIx items.size 0 lo)).take (sIx items.size items.size hi - sIx items.size 0 lo)).toArray):=by
    show ((items.toList.drop (sIx items.size 0 lo)).take (sIx items.size items.size hi - sIx items.size 0 lo)).toArray.size ≤ sizeLine
    rw [List.size_toArray,List.length_take,List.length_drop,Array.length_toList]
    omega
  have hj : sIx items.size items.size hi ≤ items.size:=sIx_le _ _ (Nat.le_refl _) hi
  obtain ⟨os,hos,hcs,hds⟩:=id hs
  have hTs : s.TypeIs (.ref sl) "slice":=⟨os,hos,hcs⟩
  unfold getItem
  try with_reducible refine wpAny_holding ?_
  first | refine wpAny_bind (wpAny_pure ?_) | skip
  refine wpAny_bind (wpAny_sequenceKey ht.typeIs (by decide) ?_)
  refine wpAny_bind (wpAny_callSpecial?_slot (name:=Str.ofString "__getitem__") ht.typeIs PyProof.Rows.slot_tuple_getitem
    (wpAny_call_entry PyProof.Rows.slot_tuple_getitem ht.typeIs entry_tuple_getitem ?_ (args_tuple_getitem _ _)))
  show wpAny _ _ (Builtin.Tuple.tupleItemsOf (.ref t) >>= _) _ _ s
  refine wpAny_bind (tupleItemsOf_ ht ?_)
  refine wpAny_bind (wpAny_typeOf hTs ?_)
  rw [if_pos (by decide)]
  refine wpAny_bind (sliceApplied_gen hs pl pu ?_)
  have hno : ¬ ((((sIx items.size 0 lo : Nat) : Int) == 0 && (1 : Int) == 1 && (sIx items.size items.size hi - sIx items.size 0 lo) == items.size) = true):=by
    intro q
    rw [Bool.and_eq_true,Bool.and_eq_true] at q
    have q1 : ((sIx items.size 0 lo : Nat) : Int) = 0:=eq_of_beq q.1.1
    have q2 : sIx items.size items.size hi - sIx items.size 0 lo = items.size:=eq_of_beq q.2
    exact hw ⟨by omega,by omega⟩
  show wpAny _ _ (if (((sIx items.size 0 lo : Nat) : Int) == 0 && (1 : Int) == 1 && (sIx items.size items.size hi - sIx items.size 0 lo) == items.size) = true then _ else _) _ _ s
  rw [if_neg hno,pick_gen]
  first
    | exact wpAny_bind (m:=Builtin.Tuple.tupleExact _) (wpAny_newObj_type (wpAny_pure ⟨_,rfl,wpAny_pure h⟩) htake)
    | exact wpAny_bind (m:=Builtin.Tuple.tupleExact _) (wpAny_newObj_type (wpAny_bind (wpAny_pure (wpAny_pure ⟨_,rfl,wpAny_pure h⟩))) htake)
    | exact wpAny_bind (wpAny_bind (m:=Builtin.Tuple.tupleExact _) (wpAny_newObj_type (wpAny_pure (wpAny_pure ⟨_,rfl,wpAny_pure h⟩)) htake))
    | exact wpAny_bind (wpAny_bind (m:=Builtin.Tuple.tupleExact _) (wpAny_newObj_type (wpAny_pure ⟨_,rfl,wpAny_pure h⟩) htake))
end
end HT
namespace L2
open PySem PySem.Spec PyProof.Rows
abbrev TO:=St→Hp→(Option Int→Hp→Prop)→Prop
def PO (X : Cx) (e : Option Expr) (t : TO) : Prop :=
  ∀ (pins : List (Addr × Obj)) (s : Shared) (σ : St) (H : Hp) (Q : Option Int→Hp→Prop),Inv X pins σ H s→t σ H Q →
    wpAny (model X.prog X.w) X.A (evalPart e X.env) (fun u s'=>∃ o H',Inv X pins σ H' s'∧IsPart u o∧Q o H') X.xe s
def tNoPart : TO:=fun _ H Q=>Q none H
def tPart (t : TE) : TO:=fun σ H Q=>t σ H fun x H1=>∃ i,x = .int i∧Q (some i) H1
theorem intsAre_of {ns : List Int} : ∀ {us : List Value},Vals (ns.map V.int) us→IntsAre us ns:=by
  induction ns with
  | nil=>intro us r; rw [List.map_nil] at r; cases r; exact .nil
  | cons n ns ih =>
    intro us r
    rw [List.map_cons] at r
    cases r with
    | cons r1 r2 =>
      obtain ⟨t,e⟩:=r1
      subst e
      exact .cons n t (ih r2)
section
variable {X : Cx} {e : Expr} {te : TE} {lo hi : Option Expr} {tl th : TO} {pos p2 : Pos}
theorem po_none : PO X none tNoPart:=by
  intro pins s σ H Q I h
  rw [evalPart_none]
  exact wpAny_pure ⟨none,H,I,.none,h⟩
theorem po_some (h : PE X e te) : PO X (some e) (tPart te):=by
  intro pins s σ H Q I hw
  rw [evalPart_some]
  refine thn (h pins s σ H _ I hw) fun u s1 ⟨x,H1,I1,r1,q1⟩=>?_
  obtain ⟨i,rfl,q⟩:=q1
  obtain ⟨t,rfl⟩:=r1
  exact ⟨some i,H1,I1,.int i t,q⟩
def SlR (X : Cx) (r : V→Option Int→Option Int→Hp→VK→Prop) : Prop :=
  ∀ (pins : List (Addr × Obj)) (s : Shared) (σ : St) (H : Hp) (x : V) (v vl vu : Value) (lo hi : Option Int) (sl : Addr) (Q : VK),Inv X pins σ H s→RelV x v→s.heap.IsSliceOf sl vl vu .none→IsPart vl lo→IsPart vu hi→r x lo hi H Q →
    ∃ T id,typeLookup (.type T) "__getitem__" = pure (some (.builtin id))∧s.TypeIs v T∧wpAny (model X.prog X.w) X.A (getItem v (.ref sl)) (EP X pins σ Q) X.xe s
theorem SlR.or {r r' : V→Option Int→Option Int→Hp→VK→Prop} (h : SlR X r) (h' : SlR X r') : SlR X (fun x lo hi H Q=>r x lo hi H Q∨r' x lo hi H Q):=by
  intro pins s σ H x v vl vu lo hi sl Q I rx hs pl pu q
  rcases q with q | q
  · exact h pins s σ H x v vl vu lo hi sl Q I rx hs pl pu q
  · exact h' pins s σ H x v vl vu lo hi sl Q I rx hs pl pu q
def tSl (r : V→Option Int→Option Int→Hp→VK→Prop) (te : TE) (tl th : TO) : TE:=fun σ H Q=>te σ H fun x H1=>tl σ H1 fun l H2=>th σ H2 fun u H3=>r x l u H3 Q
theorem pe_slice {r : V→Option Int→Option Int→Hp→VK→Prop} (hr : SlR X r) (he : PE X e te) (hl : PO X lo tl) (hu : PO X hi th) : PE X (.Subscript e (.Slice lo hi none p2) pos) (tSl r te tl th):=by
  intro pins s σ H Q I h
  refine Subscript_ (thn (he pins s σ H _ I h) fun v s1 ⟨x,H1,I1,r1,q1⟩=>?_)
  refine wpAny_Slice (thn (hl pins s1 σ H1 _ I1 q1) fun vl s2 ⟨l,H2,I2,pl,q2⟩=>thn (hu pins s2 σ H2 _ I2 q2) fun vu s3 ⟨u,H3,I3,pu,q3⟩=>?_)
  rw [evalPart_none]
  refine wpAny_pure ?_
  have I4 : Inv X pins σ H3 { s3 with heap:=s3.heap.push { cls:=.type "slice",data:=.fields #[vl,vu,.none] } }:=I3.kept (t':=s3.toks) fun b ob q=>Heap.get?_push_of_some _ q
  obtain ⟨T,id,hT,ht,hg⟩:=hr pins { s3 with heap:=s3.heap.push { cls:=.type "slice",data:=.fields #[vl,vu,.none] } } σ H3 x v vl vu l u s3.heap.objs.size Q I4 r1 (Heap.IsSliceOf.new ..) pl pu q3
  show wpAny (model X.prog X.w) X.A (subscriptTail e (.Slice lo hi none p2) v (.ref s3.heap.objs.size)) (EP X pins σ Q) X.xe { s3 with heap:=s3.heap.push { cls:=.type "slice",data:=.fields #[vl,vu,.none] } }
  exact tail_any (ops:=[.ref s3.heap.objs.size,v]) ht hT hg (by with_unfolding_all rfl)
def cutV (xs : List V) (lo hi : Option Int) : List V:=(xs.drop (HT.sIx xs.length 0 lo)).take (HT.sIx xs.length xs.length hi - HT.sIx xs.length 0 lo)
theorem cutV_length (xs : List V) (lo hi : Option Int) : (cutV xs lo hi).length ≤ xs.length:=by
  unfold cutV
  rw [List.length_take,List.length_drop]
  omega
def rSlT (K : PySem.W.Frag) : V→Option Int→Option Int→Hp→VK→Prop:=fun x lo hi H Q=>∃ a xs,x = .ref a∧SqT K H a xs ∧
  ¬ (HT.sIx xs.length 0 lo = 0∧HT.sIx xs.length xs.length hi = xs.length)∧∀ p,H p = none→Q (.ref p) (upd H p (.tup (cutV xs lo hi)))
theorem sl_tup : SlR X (rSlT X.K):=by
  intro pins s σ H x v vl vu lo hi sl Q I rx hs pl pu h
  obtain ⟨a,xs,rfl,hx,hw,q⟩:=h
  cases rx
  obtain ⟨its,r,ht,hz⟩:=I.tuple hx
  have hlen : its.toArray.size = xs.length:=by rw [List.size_toArray]; exact r.length.symm
  refine ⟨"tuple",_,PyProof.Rows.slot_tuple_getitem.lookup,ht.typeIs,?_⟩
  refine HT.getItem_tuple_cut ht hs pl pu (by rw [hlen]; exact hw) ?_ (by rw [hlen]; exact hz)
  rw [hlen]
  refine ⟨.ref s.heap.objs.size,_,I.laid (t':=s.toks) (o:=.tup (cutV xs lo hi)) (fun b ob q=>Heap.get?_push_of_some _ q) (Nat.le_refl _) ?_,rfl,q _ (I.hok.fresh (Nat.le_refl _))⟩
  exact ⟨Nat.le_trans (cutV_length xs lo hi) hz,_,(r.drop (HT.sIx xs.length 0 lo)).take (HT.sIx xs.length xs.length hi - HT.sIx xs.length 0 lo),IsTup.new _ _⟩
def rCatT (K : PySem.W.Frag) : R2:=fun x y H Q=>∃ a b xs ys,x = .ref a∧y = .ref b∧SqT K H a xs∧SqT K H b ys∧xs ≠ []∧xs.length + ys.length ≤ sizeLine ∧
  (ys = []→Q (.ref a) H)∧(ys ≠ []→∀ p,H p = none→Q (.ref p) (upd H p (.tup (xs++ys))))
theorem Vals.nil_iff {xs : List V} {us : List Value} (r : Vals xs us) : us = [] ↔ xs = []:=by
  cases r with
  | nil=>simp
  | cons _ _=>simp
theorem op_catT : OpR X (binaryOp .Add) (rCatT X.K):=by
  intro pins s σ H x y v u Q I rx ry h
  obtain ⟨a,b,xs,ys,rfl,rfl,ha,hb,hx,hz,q1,q2⟩:=h
  cases rx
  cases ry
  obtain ⟨its,r1,p1,_⟩:=I.tuple ha
  obtain ⟨its2,r2,p2,_⟩:=I.tuple hb
  refine HT.cat_tup p1 p2 (fun z=>hx (r1.nil_iff.mp z)) (fun z=>⟨.ref a,H,I,rfl,q1 (r2.nil_iff.mp z)⟩) (fun z=>?_) (by rw [← r1.length,← r2.length]; exact hz)
  refine ⟨.ref s.heap.objs.size,_,I.laid (t':=s.toks) (o:=.tup (xs++ys)) (fun b ob q=>Heap.get?_push_of_some _ q) (Nat.le_refl _) ?_,rfl,q2 (fun w=>z (r2.nil_iff.mpr w)) _ (I.hok.fresh (Nat.le_refl _))⟩
  exact ⟨by rw [List.length_append]; exact hz,_,r1.append r2,IsTup.new _ _⟩
end
end L2
namespace L2
open PySem PySem.Spec PyProof.Rows
def ixN (n : Nat) (i : Int) : Option Nat:=if 0 ≤ i then (if i < n then some i.toNat else none) else if -(n : Int) ≤ i then some (i + n).toNat else none
def atI {α : Type} (xs : List α) (i : Int) : Option α:=(ixN xs.length i).bind fun j=>xs[j]?
theorem ixN_seq {n : Nat} {i : Int} {j : Nat} (h : ixN n i = some j) : seqIndex? i n = some j∧j < n∧-(n : Int) ≤ i∧i < n:=by
  unfold ixN at h
  by_cases h0 : 0 ≤ i
  · rw [if_pos h0] at h
    by_cases h1 : i < n
    · rw [if_pos h1] at h
      have e : i.toNat = j:=Option.some.inj h
      exact ⟨by rw [seqIndex_of h0 h1,e],by omega,by omega,h1⟩
    · rw [if_neg h1] at h; cases h
  · rw [if_neg h0] at h
    by_cases h1 : -(n : Int) ≤ i
    · rw [if_pos h1] at h
      have e : (i + n).toNat = j:=Option.some.inj h
      exact ⟨by rw [seqIndex_neg (by omega) h1,e],by omega,h1,by omega⟩
    · rw [if_neg h1] at h; cases h
theorem atI_get {α : Type} {xs : List α} {i : Int} {v : α} (h : atI xs i = some v) : ∃ j,seqIndex? i xs.length = some j∧xs[j]? = some v∧j < xs.length∧-(xs.length : Int) ≤ i∧i < xs.length:=by
  unfold atI at h
  cases e : ixN xs.length i with
  | none=>rw [e] at h; cases h
  | some j =>
    rw [e] at h
    obtain ⟨h1,h2,h3,h4⟩:=ixN_seq e
    exact ⟨j,h1,h,h2,h3,h4⟩
def PlainIx (b : Expr) : Prop:=∀ o i,subscripted b false o i = operate [o,i] (getItem o i)
def IxR (X : Cx) (r : R2) : Prop :=
  ∀ (value slice : Expr) (pins : List (Addr × Obj)) (s : Shared) (σ : St) (H : Hp) (x y : V) (v u : Value) (Q : VK),Inv X pins σ H s→RelV x v→RelV y u→r x y H Q →
    subscripted slice false v u = operate [v,u] (getItem v u)→wpAny (model X.prog X.w) X.A (subscriptTail value slice v u) (EP X pins σ Q) X.xe s
def MtR (X : Cx) (id : String) (r : V→List V→Hp→VK→Prop) : Prop :=
  ∀ (pins : List (Addr × Obj)) (s : Shared) (σ : St) (H : Hp) (x : V) (xs : List V) (v : Value) (us : List Value) (Q : VK),Inv X pins σ H s→RelV x v→Vals xs us→r x xs H Q →
    wpAny (model X.prog X.w) X.A (call (.builtin id) (v::us)) (EP X pins σ Q) X.xe s
section
variable {X : Cx} {a b : Expr} {ta tb : TE} {pos : Pos}
theorem IxR.or {r r' : R2} (h : IxR X r) (h' : IxR X r') : IxR X (fun x y H Q=>r x y H Q∨r' x y H Q):=by
  intro value slice pins s σ H x y v u Q I rx ry q hs
  rcases q with q | q
  · exact h value slice pins s σ H x y v u Q I rx ry q hs
  · exact h' value slice pins s σ H x y v u Q I rx ry q hs
theorem MtR.or {id : String} {r r' : V→List V→Hp→VK→Prop} (h : MtR X id r) (h' : MtR X id r') : MtR X id (fun x xs H Q=>r x xs H Q∨r' x xs H Q):=by
  intro pins s σ H x xs v us Q I rx rs q
  rcases q with q | q
  · exact h pins s σ H x xs v us Q I rx rs q
  · exact h' pins s σ H x xs v us Q I rx rs q
theorem pe_ix {r : R2} (hr : IxR X r) (ha : PE X a ta) (hb : PE X b tb) (hs : PlainIx b) : PE X (.Subscript a b pos) (tOp r ta tb):=by
  intro pins s σ H Q I h
  exact Subscript_ (binT ha hb I h fun v u s2 x y H2 I2 rx ry q=>hr a b pins s2 σ H2 x y v u Q I2 rx ry q (hs _ _))
def rIxL (K : PySem.W.Frag) : R2:=fun x y H Q=>∃ p xs i v,x = .ref p∧y = .int i∧SqL K H p xs∧atI xs i = some v∧Q v H
def rIxT (K : PySem.W.Frag) : R2:=fun x y H Q=>∃ p xs i v,x = .ref p∧y = .int i∧SqT K H p xs∧atI xs i = some v∧Q v H
def rIxS : R2:=fun x y H Q=>∃ z i c,x = .str z∧y = .int i∧z.length ≤ sizeLine∧atI z.cps.toList i = some c∧Q (.str ⟨#[c]⟩) H
theorem ix_list : IxR X (rIxL X.K):=by
  intro value slice pins s σ H x y v u Q I rx ry h hs
  obtain ⟨p,xs,i,z,rfl,rfl,hq,he,q⟩:=h
  cases rx
  obtain ⟨t,rfl⟩:=ry
  obtain ⟨its,r,pl,hz⟩:=I.list hq
  obtain ⟨j,h1,h2,h3,h4,h5⟩:=atI_get he
  obtain ⟨w,ew,rw'⟩:=r.get h2
  have hl:=r.length
  have hn:=line63
  have fin : EP X pins σ Q w s:=⟨z,H,I,rw',q⟩
  by_cases h0 : 0 ≤ i
  · have hj : i.toNat = j:=by
      rw [seqIndex_of h0 h5] at h1
      exact Option.some.inj h1
    exact item_listR pl.isList h0 (by omega) (by rw [hj]; simpa using ew) fin hs
  · have hj : (i + (its.toArray.size : Int)).toNat = j:=by
      rw [seqIndex_neg (by omega) h4] at h1
      rw [List.size_toArray,← hl]
      exact Option.some.inj h1
    exact subscriptTail_builtinR (x:=w) pl.isList.typeIs slot_list_getitem.lookup
      (wpAny_getItem_list_neg (Q:=fun r s'=>r = w∧EP X pins σ Q r s') pl.isList (by omega) (by rw [List.size_toArray] <;> omega) (by omega) (by rw [hj]; simpa using ew) ⟨rfl,fin⟩) hs
theorem ix_tup : IxR X (rIxT X.K):=by
  intro value slice pins s σ H x y v u Q I rx ry h hs
  obtain ⟨p,xs,i,z,rfl,rfl,hq,he,q⟩:=h
  cases rx
  obtain ⟨t,rfl⟩:=ry
  obtain ⟨its,r,pl,hz⟩:=I.tuple hq
  obtain ⟨j,h1,h2,h3,h4,h5⟩:=atI_get he
  obtain ⟨w,ew,rw'⟩:=r.get h2
  have hl:=r.length
  have hn:=line63
  have fin : EP X pins σ Q w s:=⟨z,H,I,rw',q⟩
  exact subscriptTail_builtinR (x:=w) pl.typeIs slot_tuple_getitem.lookup
    (getItem_tuple (j:=j) (Q:=fun r s'=>r = w∧EP X pins σ Q r s') pl (by omega) (by omega) (by rw [List.size_toArray,← hl]; exact h1) (by simpa using ew) ⟨rfl,fin⟩) hs
theorem ix_str : IxR X rIxS:=by
  intro value slice pins s σ H x y v u Q I rx ry h hs
  obtain ⟨z,i,c,rfl,rfl,hz,he,q⟩:=h
  obtain ⟨t,rfl⟩:=rx
  obtain ⟨t',rfl⟩:=ry
  obtain ⟨j,h1,h2,h3,h4,h5⟩:=atI_get he
  have hl : z.cps.toList.length = z.length:=by simp [Str.length]
  rw [hl] at h1 h4 h5
  have hn:=line63
  exact tail_any (typeIs_str s z t) slot_str_getitem.lookup (getItem_str (c:=c) (by
    have e1 : decide (i < -(2 ^ 63 : Int)) = false:=decide_eq_false (by omega)
    have e2 : decide (i ≥ 2 ^ 63) = false:=decide_eq_false (by omega)
    rw [e1,e2,Bool.or_false]) (by rw [h1]; simpa using h2) ⟨.str ⟨#[c]⟩,H,I.tok _,⟨_,rfl⟩,q⟩) hs
theorem mapSeq_set (its : List Value) (n j : Nat) (u : Value) : Obj.mapSeq (·.setIfInBounds j u) { cls:=.type "list",data:=.seq its.toArray n } = { cls:=.type "list",data:=.seq (its.set j u).toArray n }:=by
  simp [Obj.mapSeq]
theorem Inv.lst {pins : List (Addr × Obj)} {σ : St} {H : Hp} {s : Shared} {p : Addr} {xs : List V} (I : Inv X pins σ H s) (h : H p = some (.lst xs)) :
    ∃ (its : List Value) (n : Nat),Vals xs its∧s.heap.get? p = some { cls:=.type "list",data:=.seq its.toArray n }∧xs.length ≤ sizeLine:=by
  obtain ⟨z,its,n,r,e⟩:=I.hok p _ h
  exact ⟨its,n,r,e,z⟩
theorem Inv.lstUpd {pins : List (Addr × Obj)} {σ : St} {H : Hp} {s : Shared} {p : Addr} {xs ys : List V} {its its' : List Value} {n n' : Nat} {f : Obj→Obj} (I : Inv X pins σ H s) (h : H p = some (.lst xs))
    (ho : s.heap.get? p = some { cls:=.type "list",data:=.seq its.toArray n }) (hf : f { cls:=.type "list",data:=.seq its.toArray n } = { cls:=.type "list",data:=.seq its'.toArray n' }) (r : Vals ys its') (hz : ys.length ≤ sizeLine) (t : Nat) :
    Inv X pins σ (upd H p (.lst ys)) { s with heap:=s.heap.update p f,toks:=t }:=by
  have e : (s.heap.update p f).get? p = some { cls:=.type "list",data:=.seq its'.toArray n' }:=by
    rw [Heap.get?_update_self f ho (by rw [hf] <;> rfl),hf]
  refine I.write (x:=p) (e:=p) (by rw [h]; trivial) (.inl rfl) (fun b u hb q=>(Heap.get?_update_other _ _ (Ne.symm hb)).trans q) ⟨_,e⟩ ?_
  exact ⟨hz,its',n',r,e⟩
def rSetL : V→V→V→Hp→(Hp→Prop)→Prop:=fun o i v H Q=>∃ p xs k j,o = .ref p∧i = .int k∧H p = some (.lst xs)∧ixN xs.length k = some j∧Q (upd H p (.lst (xs.set j v)))
theorem set_list : PSet X rSetL:=by
  intro pins s σ H o i v ov iv u Q I ro ri rv h
  obtain ⟨p,xs,k,j,rfl,rfl,hp,hj,q⟩:=h
  cases ro
  obtain ⟨t,rfl⟩:=ri
  obtain ⟨its,n,r,ho,hz⟩:=I.lst hp
  obtain ⟨h1,h2,h3,h4⟩:=ixN_seq hj
  have hl:=r.length
  have hn:=line63
  have I' : Inv X pins σ (upd H p (.lst (xs.set j v))) { s with heap:=s.heap.update p (Obj.mapSeq (·.setIfInBounds j u)) } :=
    I.lstUpd hp ho (mapSeq_set its n j u) (r.set rv j) (by rw [List.length_set]; exact hz) s.toks
  by_cases h0 : 0 ≤ k
  · have hk : k.toNat = j:=by
      rw [seqIndex_of h0 h4] at h1
      exact Option.some.inj h1
    exact PySem.W.ki_setAt ho h0 (by omega) (by rw [List.size_toArray,← hl]; exact h4) (by rw [hk]; exact ⟨_,I',q⟩)
  · have hk : (k + (its.toArray.size : Int)).toNat = j:=by
      rw [seqIndex_neg (by omega) h3] at h1
      rw [List.size_toArray,← hl]
      exact Option.some.inj h1
    exact PySem.W.ki_setBack ho (by omega) (by rw [List.size_toArray,← hl]; exact h3) (by omega) (by rw [hk]; exact ⟨_,I',q⟩)
theorem slice_bounds (lo hi : Option Int) (n : Nat) : (sliceBounds lo hi none n).1 = ((HT.sIx n 0 lo : Nat) : Int)∧(sliceBounds lo hi none n).2.1 = ((HT.sIx n n hi : Nat) : Int)∧(sliceBounds lo hi none n).2.2 = 1:=by
  refine ⟨?_,?_,rfl⟩
  · cases lo with
    | none=>simp [sliceBounds,HT.sIx]
    | some i =>
      simp only [sliceBounds,HT.sIx,Option.getD_none,show (1 : Int) > 0 by decide,if_true]
      by_cases h : i < 0
      · simp only [h,if_true] <;> omega
      · simp only [h,if_false] <;> omega
  · cases hi with
    | none=>simp [sliceBounds,HT.sIx]
    | some i =>
      simp only [sliceBounds,HT.sIx,Option.getD_none,show (1 : Int) > 0 by decide,if_true]
      by_cases h : i < 0
      · simp only [h,if_true] <;> omega
      · simp only [h,if_false] <;> omega
theorem slicePick_cut (its : List Value) (lo hi : Option Int) : slicePick its.toArray lo hi none = ((its.drop (HT.sIx its.length 0 lo)).take (HT.sIx its.length its.length hi - HT.sIx its.length 0 lo)).toArray:=by
  obtain ⟨h1,h2,h3⟩:=slice_bounds lo hi its.toArray.size
  unfold slicePick
  rw [h1,h2,h3]
  simp only [sliceRange_one,pick_run,List.size_toArray] <;> rfl
def rSlL (K : PySem.W.Frag) : V→Option Int→Option Int→Hp→VK→Prop:=fun x lo hi H Q=>∃ a xs,x = .ref a∧SqL K H a xs∧∀ p,H p = none→Q (.ref p) (upd H p (.lst (cutV xs lo hi)))
theorem sl_list : SlR X (rSlL X.K):=by
  intro pins s σ H x v vl vu lo hi sl Q I rx hs pl pu h
  obtain ⟨a,xs,rfl,hx,q⟩:=h
  cases rx
  obtain ⟨its,r,ht,hz⟩:=I.list hx
  have hlen:=r.length
  refine ⟨"list",_,slot_list_getitem.lookup,ht.isList.typeIs,?_⟩
  refine wpAny_getItem_list_slice ht.isList hs pl pu .none (by simp) ?_ (by rw [List.size_toArray] <;> omega)
  rw [slicePick_cut,← hlen]
  refine ⟨.ref s.heap.objs.size,_,I.laid (t':=s.toks) (o:=.lst (cutV xs lo hi)) (fun b ob q=>Heap.get?_push_of_some _ q) (Nat.le_refl _) ?_,rfl,q _ (I.hok.fresh (Nat.le_refl _))⟩
  exact ⟨Nat.le_trans (cutV_length xs lo hi) hz,_,0,(r.drop (HT.sIx xs.length 0 lo)).take (HT.sIx xs.length xs.length hi - HT.sIx xs.length 0 lo),Heap.get?_push_size _ rfl⟩
theorem call_len_seq : CallR X (.builtin "len") (fun xs H Q=>∃ p ys,xs = [.ref p]∧(SqL X.K H p ys∨SqT X.K H p ys)∧Q (.int ys.length) H):=by
  intro pins s σ H xs us Q I r h
  obtain ⟨p,ys,rfl,hq,q⟩:=h
  obtain ⟨u,rfl,rx⟩:=vals1 r
  cases rx
  have hn:=line63
  rcases hq with hq | hq
  · obtain ⟨its,r',pl,hz⟩:=I.list hq
    have hlen:=r'.length
    exact Calls.call_len_list pl.isList (by simp only [List.size_toArray] <;> omega) ⟨.int ys.length,H,I.tok _,⟨s.toks + 1,by rw [List.size_toArray,hlen]⟩,q⟩
  · obtain ⟨its,r',pl,hz⟩:=I.tuple hq
    have hlen:=r'.length
    exact len_tuple pl (by simp only [List.size_toArray] <;> omega) ⟨.int ys.length,H,I.tok _,⟨s.toks + 1,by rw [List.size_toArray,hlen]⟩,q⟩
theorem call_len_str : CallR X (.builtin "len") (fun xs H Q=>∃ z,xs = [.str z]∧z.length ≤ sizeLine∧Q (.int z.length) H):=by
  intro pins s σ H xs us Q I r h
  obtain ⟨z,rfl,hz,q⟩:=h
  obtain ⟨u,rfl,t,rfl⟩:=vals1 r
  have hn:=line63
  exact len_str (by omega) ⟨.int z.length,H,I.tok _,⟨_,rfl⟩,q⟩
theorem CallR.or {f : Value} {r r' : List V→Hp→VK→Prop} (h : CallR X f r) (h' : CallR X f r') : CallR X f (fun xs H Q=>r xs H Q∨r' xs H Q):=by
  intro pins s σ H xs us Q I rs q
  rcases q with q | q
  · exact h pins s σ H xs us Q I rs q
  · exact h' pins s σ H xs us Q I rs q
theorem call_list_of : CallR X (.type "list") (fun xs H Q=>∃ p ys,xs = [.ref p]∧(SqL X.K H p ys∨SqT X.K H p ys)∧∀ l,H l = none→Q (.ref l) (upd H l (.lst ys))):=by
  intro pins s σ H xs us Q I r h
  obtain ⟨p,ys,rfl,hq,q⟩:=h
  obtain ⟨u,rfl,rx⟩:=vals1 r
  cases rx
  have fin : ∀ (its : List Value),Vals ys its→ys.length ≤ sizeLine→∀ (h' : Heap) (c' : Nat),(∀ b o',s.heap.get? b = some o'→h'.get? b = some o') →
      h'.get? s.heap.objs.size = some { cls:=.type "list",dict:=none,data:=.seq its.toArray c',slots:=#[] }→EP X pins σ Q (.ref s.heap.objs.size) { s with heap:=h' }:=fun its r' hz h' c' kp e =>
    ⟨.ref s.heap.objs.size,_,I.laid (t':=s.toks) kp (Nat.le_refl _) (show ObjOk X.prog X.w _ h' _ (.lst ys) from ⟨hz,its,c',r',e⟩),rfl,q _ (I.hok.fresh (Nat.le_refl _))⟩
  rcases hq with hq | hq
  · obtain ⟨its,r',pl,hz⟩:=I.list hq
    have hlen:=r'.length
    obtain ⟨o,ho,hc,n,hd⟩:=pl.isList
    exact call_list_seq p (.inl rfl) ho hc hd (fun h' c' kp e=>fin its r' hz h' c' kp e) (by simp only [List.size_toArray] <;> omega)
  · obtain ⟨its,r',pl,hz⟩:=I.tuple hq
    have hlen:=r'.length
    obtain ⟨o,ho,hc,n,hd⟩:=pl
    exact call_list_seq p (.inr rfl) ho hc hd (fun h' c' kp e=>fin its r' hz h' c' kp e) (by simp only [List.size_toArray] <;> omega)
theorem call_tuple_of : CallR X (.type "tuple") (fun xs H Q=>∃ p ys,xs = [.ref p]∧((SqL X.K H p ys∧∀ l,H l = none→Q (.ref l) (upd H l (.tup ys)))∨(SqT X.K H p ys∧Q (.ref p) H))):=by
  intro pins s σ H xs us Q I r h
  obtain ⟨p,ys,rfl,h⟩:=h
  obtain ⟨u,rfl,rx⟩:=vals1 r
  cases rx
  rcases h with ⟨hq,q⟩ | ⟨hq,q⟩
  · obtain ⟨its,r',pl,hz⟩:=I.list hq
    have hlen:=r'.length
    refine call_tuple_list pl.isList (fun h' kp=>?_) (by simp only [List.size_toArray] <;> omega)
    have I1 : Inv X pins σ H { s with heap:=h' }:=I.kept (t':=s.toks) kp
    have I2 : Inv X pins σ (upd H h'.objs.size (.tup ys)) { s with heap:=h'.push { cls:=.type "tuple",data:=.seq its.toArray } } :=
      I1.laid (t':=s.toks) (fun b o e=>Heap.get?_push_of_some _ e) (Nat.le_refl _) (show ObjOk X.prog X.w _ _ _ (.tup ys) from ⟨hz,its,r',IsTup.new _ _⟩)
    exact ⟨.ref h'.objs.size,_,I2,rfl,q _ (I1.hok.fresh (Nat.le_refl _))⟩
  · obtain ⟨its,r',pl,hz⟩:=I.tuple hq
    exact call_tuple_same pl ⟨.ref p,H,I,rfl,q⟩
def tyV (K : PySem.W.Frag) (T : String) (x : V) (H : Hp) : Prop:=match x with
  | .str _=>T = "str"
  | .int _=>T = "int"
  | .ref p=>(T = "list"∧∃ xs,SqL K H p xs)∨(T = "tuple"∧∃ o,K.lookup p = some o∧o.cls = .type "tuple"∧o.dict = none) ∨
      (T = "dict"∧((∃ kvs,H p = some (.dK kvs))∨∃ kvs,H p = some (.dT kvs)))∨(T = "set"∧∃ S n,H p = some (.set S n))
  | _=>False
theorem tyV_is {pins : List (Addr × Obj)} {σ : St} {H : Hp} {s : Shared} {T : String} {x : V} {v : Value} (I : Inv X pins σ H s) (r : RelV x v) (ty : tyV X.K T x H) :
    s.TypeIs v T∧∀ a,v = .ref a→∃ ob,s.heap.get? a = some ob∧ob.dict = none:=by
  cases x with
  | str z =>
    obtain ⟨t,rfl⟩:=r
    cases (show T = "str" from ty)
    exact ⟨typeIs_str s z t,fun _ e=>nomatch e⟩
  | int i =>
    obtain ⟨t,rfl⟩:=r
    cases (show T = "int" from ty)
    exact ⟨typeIs_int s i t,fun _ e=>nomatch e⟩
  | ref p =>
    cases r
    rcases ty with ⟨rfl,xs,hq⟩ | ⟨rfl,o,hk,hc,hd⟩ | ⟨rfl,hk⟩ | ⟨rfl,S,n,hk⟩
    · obtain ⟨its,_,pl,_⟩:=I.list hq
      refine ⟨pl.isList.typeIs,fun a e=>?_⟩
      cases e
      obtain ⟨o,n,e,c,hd,_⟩:=pl
      exact ⟨o,e,hd⟩
    · refine ⟨⟨o,I.kIn p o hk,hc⟩,fun a e=>?_⟩
      cases e
      exact ⟨o,I.kIn _ o hk,hd⟩
    · have z : ∃ o,s.heap.get? p = some o∧o.ExactDict:=by
        rcases hk with ⟨kvs,hk⟩ | ⟨kvs,hk⟩
        · obtain ⟨_,_,_,_,o,_,_,e,ex,_⟩:=I.hok p _ hk
          exact ⟨o,e,ex⟩
        · obtain ⟨_,_,_,_,o,_,_,e,ex,_⟩:=I.hok p _ hk
          exact ⟨o,e,ex⟩
      obtain ⟨o,e,ex⟩:=z
      refine ⟨⟨o,e,ex.1⟩,fun a e2=>?_⟩
      cases e2
      exact ⟨o,e,ex.2.1⟩
    · obtain ⟨o,_,_,_,e,ex,_⟩:=I.hok p _ hk
      refine ⟨⟨o,e,ex.1⟩,fun a e2=>?_⟩
      cases e2
      exact ⟨o,e,ex.2.1⟩
  | _=>exact False.elim ty
def tBM (K : PySem.W.Frag) (T : String) (r : V→List V→Hp→VK→Prop) (to : TE) (t : TA) : TE:=fun σ H Q=>to σ H fun x H1=>tyV K T x H1∧t σ H1 fun xs H2=>r x xs H2 Q
variable {o e : Expr} {es : List Expr} {to : TE} {t : TA} {name : Str} {apos cpos : Pos} {T id : String} {r : V→List V→Hp→VK→Prop}
theorem pe_bm (pa : PlainAttrs T) (slot : Slot T name id) (hty : typeOf (.builtin id) = pure (.type "method_descriptor")) (hm : MtR X id r) (ho : PE X o to) (ha : PA X (e::es) t)
    (hbase : attributeBase o name X.env (eval o X.env) = eval o X.env:=by rfl)
    (hfew : ((backTo cpos (starEach (e::es) X.env)).all (fun x=>!x.1) && (backToKw cpos (keywordEach [] X.env)).all (fun x=>x.1.isSome)
      && decide ((e::es).length + ([] : List Keyword).length + (if ([] : List Keyword).isEmpty then 0 else 1) < 30)) = true:=by rfl)
    (hline : (apos.endLine == cpos.line) = true:=by rfl) (hs : starEach (e::es) X.env = (false,eval e X.env)::starEach es X.env:=by rfl) (hplain : (backTo cpos (starEach es X.env)).any (·.1) = false:=by rfl) :
    PE X (.Call (.Attribute o name apos) (e::es) [] cpos) (tBM X.K T r to t):=by
  intro pins s σ H Q I h
  refine wpAny_Call_method_late hbase hfew hline rfl (thn (ho pins s σ H _ I h) fun v s1 ⟨x,H1,I1,r1,ty,q1⟩=>?_)
  obtain ⟨h1,h2⟩:=tyV_is I1 r1 ty
  refine ⟨T,id,pa,slot,hty,h1,h2,?_⟩
  have hA:=ha cpos pins s1 σ H1 _ I1 q1
  rw [hs] at hA ⊢
  refine Calls.callWith_builtin (by show (false || (backTo cpos (starEach es X.env)).any (·.1)) = false; rw [hplain] <;> rfl) (Calls.evalArgs_plain ?_)
  exact thn hA fun us s2 ⟨vs,H2,I2,r2,q2⟩=>hm pins s2 σ H2 x vs v us Q I2 r1 r2 q2
end
end L2
namespace L2
open PySem PySem.Spec PyProof.Rows
def MtM (X : Cx) (id : String) (r : V→List V→Hp→VK→Prop) : Prop :=
  ∀ (pins : List (Addr × Obj)) (s : Shared) (σ : St) (H : Hp) (x : V) (xs : List V) (v : Value) (us : List Value) (Q : VK),Inv X pins σ H s→RelV x v→Vals xs us→r x xs H Q →
    wpAny (model X.prog X.w) X.A (call (.builtin id) (v::us)) (EP X pins σ Q) X.xe s
theorem Vals.one : ∀ {x : V} {us : List Value},Vals [x] us→∃ u,us = [u]∧RelV x u
  | _,_,.cons r .nil=>⟨_,rfl,r⟩
theorem Vals.two : ∀ {x y : V} {us : List Value},Vals [x,y] us→∃ u v,us = [u,v]∧RelV x u∧RelV y v
  | _,_,_,.cons r (.cons q .nil)=>⟨_,_,rfl,r,q⟩
theorem Vals.zero : ∀ {us : List Value},Vals [] us→us = []
  | _,.nil=>rfl
theorem Vals.rep {xs : List V} {us : List Value} (h : Vals xs us) : ∀ k : Nat,Vals (List.replicate k xs).flatten (List.replicate k us).flatten
  | 0=>.nil
  | k + 1=>by
    rw [List.replicate_succ,List.replicate_succ,List.flatten_cons,List.flatten_cons]
    exact Vals.append h (Vals.rep h k)
theorem foldl_rep (its : List Value) : ∀ (k : Nat) (acc : List Value),
    List.foldl (fun x1 x2=>x1++x2) acc.toArray (List.replicate k its.toArray) = (acc++(List.replicate k its).flatten).toArray
  | 0,acc=>by simp
  | k + 1,acc=>by
    have e : acc.toArray++its.toArray = (acc++its).toArray:=by simp
    have e2 : (acc++its)++(List.replicate k its).flatten = acc++(List.replicate (k + 1) its).flatten:=by
      rw [List.replicate_succ,List.flatten_cons,List.append_assoc]
    rw [← e2,← foldl_rep its k (acc++its),← e,List.replicate_succ,List.foldl_cons]
section
variable {X : Cx} {pins : List (Addr × Obj)} {σ : St} {H : Hp} {s : Shared} {l b : Addr} {xs ys zs : List V}
theorem Inv.lset {its its' : List Value} {n : Nat} {f : Array Value→Array Value} {t' : Nat} (I : Inv X pins σ H s) (hH : H l = some (.lst xs))
    (e : s.heap.get? l = some { cls:=.type "list",data:=.seq its.toArray n }) (hf : f its.toArray = its'.toArray) (hv : Vals ys its') (hz : ys.length ≤ sizeLine) :
    Inv X pins σ (upd H l (.lst ys)) { s with heap:=s.heap.update l (Obj.mapSeq f),toks:=t' }:=by
  have q:=PySem.IsL.update e f
  rw [hf] at q
  refine I.write (x:=l) (e:=l) (by rw [hH]; exact trivial) (.inl rfl) (fun b' u hb hu=>(Heap.get?_update_other s.heap (Obj.mapSeq f) (Ne.symm hb)).trans hu) ⟨_,q⟩ ?_
  exact ⟨hz,its',_,hv,q⟩
theorem Inv.lnew {its : List Value} {t' : Nat} (I : Inv X pins σ H s) (hv : Vals ys its) (hz : ys.length ≤ sizeLine) :
    Inv X pins σ (upd H s.heap.objs.size (.lst ys)) { s with heap:=s.heap.push { cls:=.type "list",data:=.seq its.toArray },toks:=t' } :=
  I.laid (fun _ _ q=>Heap.get?_push_of_some _ q) (Nat.le_refl _) ⟨hz,its,0,hv,Heap.get?_push_size _ rfl⟩
theorem Inv.fresh (I : Inv X pins σ H s) : H s.heap.objs.size = none:=I.hok.fresh (Nat.le_refl _)
theorem Inv.lstM (I : Inv X pins σ H s) (hH : H l = some (.lst xs)) : xs.length ≤ sizeLine∧∃ (its : List Value) (n : Nat),Vals xs its∧xs.length = its.length∧s.heap.get? l = some { cls:=.type "list",data:=.seq its.toArray n }:=by
  obtain ⟨z,its,n,r,e⟩:=I.hok l _ hH
  exact ⟨z,its,n,r,r.length,e⟩
theorem notLongL {n : Nat} (h : n ≤ sizeLine) : Builtin.List.listTooLong n = false:=by
  unfold Builtin.List.listTooLong
  exact decide_eq_false (by omega)
end
section
variable {X : Cx}
def rAppend : V→List V→Hp→VK→Prop:=fun x vs H Q=>∃ l xs y,x = .ref l∧vs = [y]∧H l = some (.lst xs)∧xs.length < sizeLine∧Q .non (upd H l (.lst (xs++[y])))
theorem mt_append : MtM X "list.append" rAppend:=by
  intro pins s σ H x vs v us Q I rx rv h
  obtain ⟨l,xs,y,rfl,rfl,hH,hz,q⟩:=h
  cases rx
  obtain ⟨u,rfl,ru⟩:=rv.one
  obtain ⟨z,its,n,r,hl,e⟩:=I.lstM hH
  refine call_meets F.slot_list_append ⟨_,e,rfl⟩ F.entry_list_append (F.args_list_append_2 _ _) (PySem.list_append l its.toArray n u (by rw [List.size_toArray]; omega)) ⟨e,?_⟩
  refine ⟨.non,_,I.lset (its':=its++[u]) hH e (by simp) (r.append (.cons ru .nil)) ?_,rfl,q⟩
  rw [List.length_append,List.length_singleton]
  omega
def rRep : R2:=fun x y H Q=>∃ l k xs,x = .ref l∧y = .int k∧H l = some (.lst xs)∧-(2 ^ 63) ≤ k∧k < 2 ^ 63∧xs.length * k.toNat ≤ sizeLine ∧
  ∀ p,H p = none→Q (.ref p) (upd H p (.lst (List.replicate k.toNat xs).flatten))
theorem len_rep {α : Type} (xs : List α) (k : Nat) : (List.replicate k xs).flatten.length = k * xs.length:=by
  induction k with
  | zero=>simp
  | succ k ih=>rw [List.replicate_succ,List.flatten_cons,List.length_append,ih,Nat.succ_mul,Nat.add_comm]
theorem op_rep : OpR X (binaryOp .Mult) rRep:=by
  intro pins s σ H x y v u Q I rx ry h
  obtain ⟨l,k,xs,rfl,rfl,hH,h1,h2,hz,q⟩:=h
  cases rx
  obtain ⟨t,rfl⟩:=ry
  obtain ⟨z,its,n,r,hl,e⟩:=I.lstM hH
  have hlen : its.toArray.size * k.toNat ≤ sizeLine:=by rw [List.size_toArray,← hl]; exact hz
  have hcap : ¬ its.toArray.size * k.toNat > (2 ^ 63 - 1) / 8:=by
    have : (sizeLine : Nat) ≤ (2 ^ 63 - 1) / 8:=by decide
    omega
  have hfit : ¬ (!Builtin.List.listFitsIndex k) = true:=by
    rw [fitsIndex_both h1 h2]
    exact Bool.false_ne_true
  have hlong : ¬ Builtin.List.listTooLong (its.toArray.size * k.toNat) = true:=by
    rw [notLongL hlen]
    exact Bool.false_ne_true
  have hnew : List.foldl (fun x1 x2=>x1++x2) #[] (List.replicate (if its.toArray.isEmpty = true then 0 else k.toNat) its.toArray) = (List.replicate k.toNat its).flatten.toArray:=by
    have f0 : ∀ m : Nat,List.foldl (fun x1 x2=>x1++x2) #[] (List.replicate m its.toArray) = (List.replicate m its).flatten.toArray:=fun m=>by
      have:=foldl_rep its m []
      rw [List.nil_append] at this
      exact this
    rw [f0]
    cases its with
    | nil=>simp
    | cons a r'=>rw [if_neg (by simp)]
  refine wpAny_binaryOp_repeat_ref (T:="list") (U:="int") (by decide) ⟨_,e,rfl⟩ (fun s'=>typeIs_int s' k t) noFill_list_mul F.fills_int_mul F.slot_int_rmul repeat_list F.slot_int_index.lookup
    (call_meets F.slot_int_rmul (typeIs_int s k t) F.entry_int_rmul (F.args_int_rmul_2 _ _) (int___rmul___int_list k t l its.toArray n)
      ⟨e,rfl,⟨_,e,rfl⟩,call_meets F.slot_list_mul ⟨_,e,rfl⟩ F.entry_list_mul (F.args_list_mul_2 _ _) (AutoListH.list___mul___list_int_3 l its.toArray n k t hfit hcap hlong) ⟨e,?_⟩⟩)
  rw [hnew]
  exact ⟨.ref _,_,I.lnew (t':=s.toks) (r.rep k.toNat) (by rw [len_rep,Nat.mul_comm]; exact hz),rfl,q _ I.fresh⟩
end
section
variable {prog : Program} {w : World} {A : Around} {E : Value→Shared→Prop} {s : Shared}
end
section
variable {X : Cx}
end
end L2
namespace Att
open PySem PySem.W PySem.Calls PyProof.Rows
theorem ints_of_wellAll {P : Params} {h : Heap} : ∀ (ns : List Int) (vs : List Value),WellAll P h vs (ns.map WData.int)→IntsAre vs ns:=by
  intro ns
  induction ns with
  | nil =>
    intro vs w
    rw [List.map_nil] at w
    cases w
    exact .nil
  | cons n ns ih =>
    intro vs w
    rw [List.map_cons] at w
    cases w with
    | cons a b =>
      cases a
      exact .cons _ _ (ih _ b)
theorem script_of {l : OpenLaw} {n : Nat} (hn : l.most = some n) {P : Params} {h : Heap} {args : List WData} {vals : List Value}
    (hpre : l.row.toRowW.claim.pre args = true) (hwl : WellAll P h vals args) :
    ∃ a vs ns,vals = [Value.ref a]∧args = [WData.list (ns.map WData.int)]∧h.get? a = some { cls:=.type "list",data:=.seq vs.toArray }∧IntsAre vs ns∧ns.length ≤ n:=by
  have hsh : WShape.hasAll [] args [.list .int] = true:=(pre_splitW hpre).1
  have hc : l.pre.holds [] { args:=args } = true:=(pre_splitW hpre).2
  obtain ⟨d,r,rfl,h1,h2⟩:=hasAllW_cons hsh
  obtain rfl:=hasAllW_nil h2
  obtain ⟨xs,rfl,h3⟩:=hasW_list h1
  obtain ⟨ns,rfl⟩:=items_int h3
  have hlen : ns.length ≤ n:=by
    unfold OpenLaw.pre at hc
    have h4 : (WTm.not (.lt (.lit (.int (n : Int))) (.len (.arg 0)))).holds [] { args:=[.list (ns.map .int)] } = true:=by
      have h4:=(holds_andW hc).1
      rw [hn] at h4
      exact h4
    have h5:=condW_of h4 (w_not (w_lt w_lit (w_len_list (w_arg rfl))))
    rw [List.length_map] at h5
    refine Nat.le_of_not_lt fun q=>?_
    have q' : (n : Int) < ((ns.length : Nat) : Int):=by omega
    first
      | (rw [decide_eq_true q'] at h5; exact absurd h5 (by decide))
      | (simp at h5; omega)
  cases hwl with
  | cons w1 w2 =>
    cases w2
    cases w1 with
    | list ho hall=>exact ⟨_,_,ns,rfl,rfl,ho,ints_of_wellAll ns _ hall,hlen⟩
theorem post_true (l : OpenLaw) (args : List WData) : l.row.toRowW.claim.post args (.bool true) args = true :=
  postW_of (r:=l.row.toRowW) (X:=(true == true))
    (show WShape.has [] (.bool true) .bool = true by first | rfl | decide | simp [WShape.has,WShape.arms,WShape.armsAll])
    (show (WTm.eq .res (.lit (.bool true))).value [] { args:=args,res:=some (.bool true),after:=args } = some (.bool (true == true)) from w_eq_bool (w_res rfl) w_lit) rfl
theorem attach_call {l : OpenLaw} {n : Nat} {q : Program} {loose : List Str} {XP : (Str→Option Value)→Heap→Prop} {YP : World→Heap→Prop} {d : DefRec}
    (hn : l.most = some n) (hdf : d.params.defaults = [])
    (call : ∀ (w : World) (s₀ s₁ : Shared) (mg mb : Str→Option Value) (fa : Addr) (o : Obj) (pm cd doc : Value) (a : Addr) (vs : List Value) (ns : List Int),
      Ground q loose [] XP w s₀ mg mb s₁.heap→YP w s₁.heap →
      s₁.heap.get? fa = some o→o.data = .func (docDef d.name d.params d.body d.scope pm cd doc)→s₁.heap.CodeRec cd d.name→mg d.name = some (.ref fa) →
      s₁.heap.get? a = some { cls:=.type "list",data:=.seq vs.toArray }→IntsAre vs ns→ns.length ≤ n→s₁.gens = #[] →
      codeAny (model l.prog w) callerA (.call (.ref fa) ⟨[.ref a],[]⟩) (fun r s'=>r = .ok (.ret (.bool true))∧OldK s₁.heap s'.heap∧s'.os = s₁.os∧AllBare s'.gens) s₁) :
    WalkO q loose XP YP l.row.toRowW d [] (fun f vs=>PySem.call f vs):=by
  intro w s₀ s₁ mg mb G Y fa o pm cd doc dV kV ho hd hcd hD hmg hg args vals as hpre hlay hrd hwl hlo
  obtain rfl : dV = .none:=Dflts.none hD hdf
  obtain rfl : kV = .none:=Dflts.noKw hD
  obtain ⟨a,vs,ns,rfl,rfl,hobj,hints,hlen⟩:=script_of hn hpre hwl
  refine enter_call (codeAny_mono (call w s₀ s₁ mg mb fa o pm cd doc a vs ns G Y ho (fd_plain hd) hcd hmg hobj hints hlen hg) fun r s' hq=>?_)
  obtain ⟨rfl,h2,h3,h4⟩:=hq
  exact ⟨.inl ⟨.bool true,.bool true,[],rfl,fun _=>rfl,.bool true,post_true l _,fun _=>⟨List.Pairwise.nil,fun _ hm=>(nomatch hm)⟩⟩,h2,h3,h4⟩
section
variable {prog : Program} {w : World} {A : Around} {E : Value→Shared→Prop} {s : Shared} {K : Frag}
end
end Att
namespace L2
open PySem PySem.Spec PyProof.Rows
theorem vals_ints : ∀ {vs : List Value} {ns : List Int},IntsAre vs ns→Vals (ns.map V.int) vs
  | _,_,.nil=>.nil
  | _,_,.cons n t h=>.cons ⟨t,rfl⟩ (vals_ints h)
def Only (H : Hp) : Prop:=∀ b,H b = none∨∃ o xs,H b = some (.frz o (.lst xs))
theorem law_call {P : Program} {w : World} {K : PySem.W.Frag} {mg mb : Str→Option Value} {CX : CXT} {k : Nat} {fa a : Addr} {fd : FuncData} {x : Str} {sp : Sp} {s₁ : Shared} {vs : List Value} {ns : List Int}
    (KX : K.In s₁.heap) (hns : s₁.heap.Ns mainGlobals mg) (hb : s₁.heap.Ns builtinsNs mb) (hbb : ∀ x : Str,x ≠ "__name__"→mb x = bootBuiltins x) (hlim : s₁.heap.NoLimit) (hg : s₁.gens = #[])
    (ha : s₁.heap.get? a = some { cls:=.type "list",data:=.seq vs.toArray }) (hi : IntsAre vs ns) (hl : ns.length ≤ sizeLine) (hr : Room k callerA)
    (F : ∀ base : Heap,K.In base→base.Ns mainGlobals mg→FnOk P w K mg base CX k fa fd [x] sp) (hbind : ∀ (s : Shared) (u : Value),BindsTo s fd ⟨[u],[]⟩ [(x,u)])
    (hsp : ∀ H : Hp,Only H→SqL K H a (ns.map V.int)→sp [.ref a] H (fun v _=>v = .bl true) fun _ _ _=>False)
    (hCX : ∀ H e s',CX [] H s₁ (fun _ _ _=>False) e s'→False) :
    codeAny (model P w) callerA (.call (.ref fa) ⟨[.ref a],[]⟩) (fun r s'=>r = .ok (.ret (.bool true))∧OldK s₁.heap s'.heap∧s'.os = s₁.os∧AllBare s'.gens) s₁:=by
  have rv:=vals_ints hi
  have lenV:=hi.length
  -- from an abstract heap in which nothing but the script may be tracked
  have core : ∀ H : Hp,Only H→SqL K H a (ns.map V.int)→HOk P w H s₁.heap→(∀ b,H b ≠ none→b = a)→(H a ≠ none→K.lookup a = none) →
      codeAny (model P w) callerA (.call (.ref fa) ⟨[.ref a],[]⟩) (fun r s'=>r = .ok (.ret (.bool true))∧OldK s₁.heap s'.heap∧s'.os = s₁.os∧AllBare s'.gens) s₁:=by
    intro H hO hS hok hA hK
    have base_of : ∀ {b : Addr} {o : Obj},s₁.heap.get? b = some o→H b = none→(hidT s₁.heap H).get? b = some o:=fun e n=>hidT_get e n
    have noA : ∀ {b : Addr} {o : Obj} {es : Array DictEntry} {ep : Nat},s₁.heap.get? b = some o→o.data = .dict es ep→H b = none:=fun {b o es ep} e d=>by
      cases q : H b with
      | none=>rfl
      | some u =>
        have e' : b = a:=hA b (by rw [q]; simp)
        subst e'
        rw [ha] at e; cases e
        have d' : Data.seq vs.toArray _ = Data.dict es ep:=d
        cases d'
    have nsK : ∀ {b : Addr} {m : Str→Option Value},s₁.heap.Ns b m→(hidT s₁.heap H).Ns b m:=fun {b m} ⟨o,es,ep,e,d,r⟩=>⟨o,es,ep,base_of e (noA e d),d,r⟩
    have hKb : K.In (hidT s₁.heap H):=fun b o e=>base_of (KX b o e) (by
      cases q : H b with
      | none=>rfl
      | some u =>
        have e' : b = a:=hA b (by rw [q]; simp)
        subst e'
        rw [hK (by rw [q]; simp)] at e; cases e)
    have hM : Mod K mg (hidT s₁.heap H):=⟨hKb,nsK hns,⟨mb,nsK hb,hbb⟩,let ⟨mc,h1,h2⟩:=hlim; ⟨mc,nsK h1,h2⟩⟩
    have e0 : Env0 P w K mg (hidT s₁.heap H) callerA [] s₁ H:=⟨rfl,hM,fun b o e=>of_hidT e,Nat.le_of_eq (hidT_size _ _),trivial,fun b hb=>absurd (show b ∈ ([] : List Addr) from hb) (by simp),hok,.of_eq hg⟩
    refine codeAny_mono ((F _ hKb (nsK hns)).run callerA [] s₁ H ⟨[.ref a],[]⟩ [.ref a] [.ref a] _ _ hr e0 (hbind s₁ (.ref a)) (.cons rfl .nil) (hsp H hO hS)) fun r s' h=>?_
    cases r with
    | error e=>exact (hCX H e s' h).elim
    | ok fl =>
      cases fl with
      | next=>exact False.elim h
      | brk=>exact False.elim h
      | cont=>exact False.elim h
      | ret u =>
        obtain ⟨v,H',os,bare,un,hok',r',q⟩:=h
        have q' : v = .bl true:=q
        subst q'
        obtain rfl : u = Value.bool true:=r'
        refine ⟨rfl,OldK.of_keep fun b o e=>?_,os,bare⟩
        cases q : H b with
        | none=>exact un.keep b o e q (by intro z; exact absurd (show b ∈ ([] : List Addr) from z) (by simp)) (by simp)
        | some u =>
          rcases hO b with z | ⟨ob,xs,z⟩
          · rw [q] at z; cases z
          · have z2:=un.frzs b ob _ z
            obtain ⟨e1,_⟩:=hok b _ z
            obtain ⟨e2,_⟩:=hok' b _ z2
            rw [e] at e1; cases e1
            exact e2
  cases hk : K.lookup a with
  | some o =>
    -- the script is one of the module's own objects
    have e:=KX a o hk
    rw [ha] at e
    cases e
    refine core (fun _=>none) (fun _=>.inl rfl) (.inr ⟨_,vs.toArray,_,hk,rfl,rfl,rfl,by rw [List.size_toArray,lenV]; exact hl,by simpa using rv⟩) (fun b u z=>by have z' : (none : Option HO) = some u:=z; cases z') (fun b z=>absurd rfl z) fun z=>absurd rfl z
  | none =>
    refine core (fun b=>if b = a then some (.frz { cls:=.type "list",data:=.seq vs.toArray } (.lst (ns.map V.int))) else none) (fun b=>?_) (.inl (.inr ⟨{ cls:=.type "list",data:=.seq vs.toArray },if_pos rfl⟩)) (fun b u z=>?_) (fun b z=>?_) fun _=>hk
    · by_cases hb : b = a
      · exact .inr ⟨_,_,if_pos hb⟩
      · exact .inl (if_neg hb)
    · by_cases hb : b = a
      · have z':=(if_pos hb).symm.trans z
        cases z'
        subst hb
        exact ⟨ha,by rw [List.length_map]; exact hl,vs,_,rv,ha⟩
      · have z':=(if_neg hb).symm.trans z
        cases z'
    · by_cases hb : b = a
      · exact hb
      · exact absurd (if_neg hb) z
end L2
namespace L2
open PySem PySem.Spec PyProof.Rows
theorem walk_of {l : PySem.W.OpenLaw} {n k : Nat} {q : Program} {loose : List Str} {XP : (Str→Option Value)→Heap→Prop} {YP : World→Heap→Prop} {d : DefRec} {K : Params→PySem.W.Frag} {CX : World→CXT} {sp : World→Sp} {x : Str}
    (hn : l.most = some n) (hn2 : n ≤ sizeLine) (hdf : d.params.defaults = []) (hr : Room k callerA)
    (hY : ∀ (w : World) (h : Heap),YP w h→(K w.params).In h)
    (F : ∀ (w : World) (mg : Str→Option Value) (fa : Addr) (h : Heap),(K w.params).In h→h.Ns mainGlobals mg→mg d.name = some (.ref fa) →
      ∃ fd : FuncData,(∀ (s : Shared) (u : Value),BindsTo s fd ⟨[u],[]⟩ [(x,u)]) ∧
        ∀ base : Heap,(K w.params).In base→base.Ns mainGlobals mg→FnOk l.prog w (K w.params) mg base (CX w) k fa fd [x] (sp w))
    (hsp : ∀ (w : World) (H : Hp) (a : Addr) (ns : List Int),ns.length ≤ n→Only H→SqL (K w.params) H a (ns.map V.int)→sp w [.ref a] H (fun v _=>v = .bl true) fun _ _ _=>False)
    (hCX : ∀ (w : World) (H : Hp) (s : Shared) (e : Value) (s' : Shared),CX w [] H s (fun _ _ _=>False) e s'→False) :
    PySem.W.WalkO q loose XP YP l.row.toRowW d [] (fun f vs=>PySem.call f vs):=by
  refine Att.attach_call hn hdf fun w s₀ s₁ mg mb fa o pm cd doc a vs ns G Y ho hd hcd hmg hobj hints hlen hg=>?_
  have KX:=hY w _ Y
  obtain ⟨fd,hb,hF⟩:=F w mg fa _ KX G.T.g hmg
  exact law_call KX G.T.g G.T.b G.T.builtins G.T.nolimit hg hobj hints (Nat.le_trans hlen hn2) hr hF hb (fun H hO hS=>hsp w H a ns hlen hO hS) fun H e s'=>hCX w H s₁ e s'
end L2
namespace L2
open PySem PySem.Spec PyProof.Rows
def defArgs (s : Stmt) : Arguments:=match s with
  | .FunctionDef _ a _ _ _ _ _ _ _ _=>a
  | _=>{ posonlyargs:=[],args:=[],vararg:=none,kwonlyargs:=[],kw_defaults:=[],kwarg:=none,defaults:=[] }
def defBody (s : Stmt) : List Stmt:=match s with
  | .FunctionDef _ _ b _ _ _ _ _ _ _=>b
  | _=>[]
def defScope (s : Stmt) : Scope:=match s with
  | .FunctionDef _ _ _ _ _ _ sc _ _ _=>sc
  | _=>{ kind:=.function,names:=[],isGenerator:=false,isCoroutine:=false }
abbrev CX0 : CXT:=fun _ _ _ _ _ _=>False
abbrev E0 : XK:=fun _ _ _=>False
theorem pass0 {X : Cx} : Passes CX0 X E0:=fun _ _ _ _ _ _ _ h=>h.elim
structure Fun (K : PySem.W.Frag) (x qual : Str) (st : Stmt) (f : Addr) (fd : FuncData) : Prop where
  ex : ∃ (oc : Value) (od : Option Addr) (kV doc pm : Value) (an : Option Addr) (cdv ct : Value) (osl : Array (Option Value)),
    fd = PySem.W.fnOf x qual (defArgs st) (defBody st) (defScope st) .none kV doc pm an cdv ct∧K.lookup f = some ⟨oc,od,.func fd,osl⟩∧PySem.W.codeIn K cdv qual = true
  kp : PySem.W.keepIn K (.ref f) = true
section
variable {P : Program} {w : World} {K : PySem.W.Frag} {mg : Str→Option Value} {base : Heap}
theorem Fun.ok {x qual : Str} {st : Stmt} {f : Addr} {fd : FuncData} {N ps : List Str} {k : Nat} {sp : Sp} (F : Fun K x qual st f fd) (S : FnScope N ps (defScope st)) (len : ∀ vs H Q E,sp vs H Q E→vs.length = ps.length)
    (hbody : ∀ (cdv : Value) (A : Around) (outer : List Env) (s : Shared) (H : Hp) (vs : List V) (Q : VK) (E : XK),Room k (A.deeper (envOfC qual (defScope st) s.heap.objs.size f cdv))→sp vs H Q E →
      ∃ t,PSs (cxOf CX0 P w K mg base N qual (defScope st) f cdv A outer s H E).nox (defBody st) t∧t { nx:=fun _ H'=>Q .non H',rt:=Q } (start N vs) H) : FnOk P w K mg base CX0 (k + 1) f fd ps sp:=by
  obtain ⟨oc,od,kV,doc,pm,an,cdv,ct,osl,rfl,lk,hcd⟩:=F.ex
  refine fn_of lk hcd S len fun A outer s H vs Q E hr hsp=>?_
  obtain ⟨t,h,q⟩:=hbody cdv A outer s H vs Q E hr hsp
  exact ⟨t,h.nox,q⟩
theorem Fun.binds {x qual : Str} {st : Stmt} {f : Addr} {fd : FuncData} {ps : List Str} (F : Fun K x qual st f fd)
    (h : ∀ (kV doc pm : Value) (an : Option Addr) (cdv ct : Value) (us : List Value),us.length = ps.length→bindArgs (PySem.W.fnOf x qual (defArgs st) (defBody st) (defScope st) .none kV doc pm an cdv ct) ⟨us,[]⟩ = pure (ps.zip us)) : Binds K fd ps []:=by
  obtain ⟨oc,od,kV,doc,pm,an,cdv,ct,osl,rfl,lk,hcd⟩:=F.ex
  exact .all (h kV doc pm an cdv ct)
theorem fun_mk {x qual : Str} {st : Stmt} {f : Addr} {oc : Value} {od an : Option Addr} {osl : Array (Option Value)} {kV doc pm cdv ct : Value} (l : K.lookup f = some ⟨oc,od,.func (PySem.W.fnOf x qual (defArgs st) (defBody st) (defScope st) .none kV doc pm an cdv ct),osl⟩)
    (c : PySem.W.codeIn K cdv qual = true) (k : PySem.W.keepIn K (.ref f) = true) : Fun K x qual st f (PySem.W.fnOf x qual (defArgs st) (defBody st) (defScope st) .none kV doc pm an cdv ct):=⟨⟨oc,od,kV,doc,pm,an,cdv,ct,osl,rfl,l,c⟩,k⟩
end
theorem small1000 {n : Nat} (h : n ≤ 1000) : n < sizeLine:=Nat.lt_of_le_of_lt h (by decide)
section
variable {X : Cx}
theorem pv (i : Nat) {x : Str} {pos : Pos} (hN : X.N[i]? = some x:=by rfl) (hv : Vis X.env.scope x:=by first | exact Or.inl rfl | exact Or.inr (Or.inl rfl) | exact Or.inr (Or.inr rfl)) (hd : (x == ("__debug__" : Str)) = false:=by decide)
    (hcd : (x == ("__classdict__" : Str)) = false:=by decide) : PE X (.Name x pos) (tVar i):=pe_var hN hv hd hcd
end
def Same (H H' : Hp) : Prop:=∀ b o,H b = some o→H' b = some o
theorem Same.refl (H : Hp) : Same H H:=fun _ _ h=>h
theorem Same.trans {H H1 H2 : Hp} (a : Same H H1) (b : Same H1 H2) : Same H H2:=fun c o h=>b c o (a c o h)
theorem Same.free {H H' : Hp} (e : Same H H') {l : Addr} (h : H' l = Option.none) : H l = Option.none:=by
  cases q : H l with
  | none=>rfl
  | some o =>
    rw [e l o q] at h
    cases h
theorem Same.seq {K : PySem.W.Frag} {H H' : Hp} {a : Addr} {xs : List V} (e : Same H H') (h : SqL K H a xs) : SqL K H' a xs:=by
  rcases h with (h | ⟨o,h⟩) | h
  · exact .inl (.inl (e _ _ h))
  · exact .inl (.inr ⟨o,e _ _ h⟩)
  · exact .inr h
end L2
end
section
set_option Elab.async false
set_option linter.all false
set_option maxRecDepth 100000
set_option maxHeartbeats 4000000
namespace L2
open PySem PySem.Spec PyProof.Rows
section
variable {κ : Type} [DecidableEq κ]
def valV (kvs : List (κ × V)) (k : κ) : Option V:=(kvs.find? fun kv=>decide (kv.1 = k)).map (·.2)
def putK (kvs : List (κ × V)) (k : κ) (v : V) : List (κ × V) :=
  if (kvs.any fun kv=>decide (kv.1 = k)) = true then kvs.map (fun kv=>if kv.1 = k then (kv.1,v) else kv) else kvs++[(k,v)]
def dropK (kvs : List (κ × V)) (k : κ) : List (κ × V):=kvs.filter fun kv=>decide (kv.1 ≠ k)
theorem valV_pos {p : κ × V} {r : List (κ × V)} {k : κ} (e : p.1 = k) : valV (p::r) k = some p.2:=by simp [valV,List.find?_cons,e]
theorem valV_neg {p : κ × V} {r : List (κ × V)} {k : κ} (e : ¬ p.1 = k) : valV (p::r) k = valV r k:=by simp [valV,List.find?_cons,e]
theorem valV_any (k : κ) : ∀ kvs : List (κ × V),(kvs.any fun kv=>decide (kv.1 = k)) = (valV kvs k).isSome
  | []=>rfl
  | p::r=>by
    rw [List.any_cons]
    by_cases e : p.1 = k
    · simp only [valV_pos e,decide_eq_true e,Bool.true_or,Option.isSome_some]
    · rw [valV_neg e,decide_eq_false e,Bool.false_or]; exact valV_any k r
theorem length_putK (kvs : List (κ × V)) (k : κ) (v : V) : (putK kvs k v).length ≤ kvs.length + 1:=by
  unfold putK
  split
  · rw [List.length_map]; omega
  · rw [List.length_append,List.length_cons,List.length_nil]; omega
theorem RelO.isSome_eq {o : Option V} {u : Option Value} (r : RelO o u) : o.isSome = u.isSome:=by
  cases o with
  | none=>cases u with
    | none=>rfl
    | some _=>exact (show False from r).elim
  | some _=>cases u with
    | none=>exact (show False from r).elim
    | some _=>rfl
theorem RelO.getD {o : Option V} {u : Option Value} {d : V} {d' : Value} (r : RelO o u) (rd : RelV d d') : RelV (o.getD d) (u.getD d'):=by
  cases o with
  | none=>cases u with
    | none=>exact rd
    | some _=>exact (show False from r).elim
  | some _=>cases u with
    | none=>exact (show False from r).elim
    | some _=>exact r
theorem KV.val {kvs : List (κ × V)} {vs : List (κ × Value)} (r : KV kvs vs) (k : κ) : RelO (valV kvs k) (valueAt vs k):=by
  unfold KV at r
  induction r with
  | nil=>exact True.intro
  | @cons p q ps qs h t ih =>
    obtain ⟨h1,h2⟩:=h
    by_cases e : p.1 = k
    · have e' : q.1 = k:=h1.symm.trans e
      have b : valueAt (q::qs) k = some q.2:=by simp [valueAt,List.find?_cons,e']
      rw [valV_pos e,b]; exact h2
    · have e' : ¬ q.1 = k:=fun z=>e (h1.trans z)
      have b : valueAt (q::qs) k = valueAt qs k:=by simp [valueAt,List.find?_cons,e']
      rw [valV_neg e,b]; exact ih
theorem KV.any {kvs : List (κ × V)} {vs : List (κ × Value)} (r : KV kvs vs) (k : κ) : (kvs.any fun kv=>decide (kv.1 = k)) = vs.any fun kv=>decide (kv.1 = k):=by
  unfold KV at r
  induction r with
  | nil=>rfl
  | cons h t ih=>rw [List.any_cons,List.any_cons,ih,h.1]
theorem KV.repl {kvs : List (κ × V)} {vs : List (κ × Value)} (r : KV kvs vs) (k : κ) {y : V} {u : Value} (ry : RelV y u) :
    KV (kvs.map fun kv=>if kv.1 = k then (kv.1,y) else kv) (vs.map fun kv=>if kv.1 = k then (kv.1,u) else kv):=by
  unfold KV at r ⊢
  induction r with
  | nil=>exact .nil
  | @cons p q ps qs h t ih =>
    rw [List.map_cons,List.map_cons]
    refine .cons ?_ ih
    obtain ⟨h1,h2⟩:=h
    by_cases e : p.1 = k
    · rw [if_pos e,if_pos (h1.symm.trans e)]; exact ⟨h1,ry⟩
    · rw [if_neg e,if_neg (fun z=>e (h1.trans z))]; exact ⟨h1,h2⟩
theorem KV.put {kvs : List (κ × V)} {vs : List (κ × Value)} (r : KV kvs vs) (k : κ) {y : V} {u : Value} (ry : RelV y u) : KV (putK kvs k y) (stored vs k u):=by
  unfold putK stored
  rw [r.any k]
  by_cases e : (vs.any fun kv=>decide (kv.1 = k)) = true
  · rw [if_pos e,if_pos e]; exact r.repl k ry
  · rw [if_neg e,if_neg e]; exact Paired.snoc r ⟨rfl,ry⟩
theorem KV.drop {kvs : List (κ × V)} {vs : List (κ × Value)} (r : KV kvs vs) (k : κ) : KV (dropK kvs k) (without vs k):=by
  unfold KV at r ⊢
  unfold dropK without
  induction r with
  | nil=>exact .nil
  | @cons p q ps qs h t ih =>
    obtain ⟨h1,h2⟩:=h
    rw [List.filter_cons,List.filter_cons]
    by_cases e : p.1 = k
    · have a : ¬ decide (p.1 ≠ k) = true:=by simp [e]
      have b : ¬ decide (q.1 ≠ k) = true:=by simp [h1.symm.trans e]
      rw [if_neg a,if_neg b]; exact ih
    · have e' : ¬ q.1 = k:=fun z=>e (h1.trans z)
      have a : decide (p.1 ≠ k) = true:=by simp [e]
      have b : decide (q.1 ≠ k) = true:=by simp [e']
      rw [if_pos a,if_pos b]; exact .cons ⟨h1,h2⟩ ih
theorem KV.keys {kvs : List (κ × V)} {vs : List (κ × Value)} (r : KV kvs vs) : kvs.map (·.1) = vs.map (·.1):=by
  unfold KV at r
  induction r with
  | nil=>rfl
  | cons h t ih=>rw [List.map_cons,List.map_cons,ih,h.1]
theorem KV.length {kvs : List (κ × V)} {vs : List (κ × Value)} (r : KV kvs vs) : kvs.length = vs.length:=Paired.length r
end
theorem kV_is {P : Program} {w : World} {k : Key} {u : Value} (r : RelV (kV k) u) : (mixKind P w).is k u = true:=by
  cases k with
  | inl i=>obtain ⟨t,e⟩:=(show ∃ t,u = Value.int i t from r); subst e; exact mixKind_int P w i t
  | inr x=>obtain ⟨t,e⟩:=(show ∃ t,u = Value.str x t from r); subst e; exact mixKind_str P w x t
theorem items_are {P : Program} {w : World} : ∀ {ks : List Key} {us : List Value},Vals (ks.map kV) us→ItemsAre (mixKind P w) ks us
  | [],_,r=>by rw [List.map_nil] at r; cases r; exact .nil
  | k::ks,_,r=>by
    rw [List.map_cons] at r
    cases r with
    | cons h t=>exact .cons (kV_is h) (items_are t)
abbrev KT (H : Hp) : List (List Key × V)→List (List Key × Addr × Value)→Prop:=Paired fun p q=>p.1 = q.1∧H q.2.1 = some (.tup (p.1.map kV))∧RelV p.2 q.2.2
theorem KT.val {H : Hp} {kvs : List (List Key × V)} {xs : List (List Key × Addr × Value)} (r : KT H kvs xs) (k : List Key) : RelO (valV kvs k) ((atKey xs k).map (·.2)):=by
  induction r with
  | nil=>exact True.intro
  | @cons p q ps qs h t ih =>
    obtain ⟨h1,_,h2⟩:=h
    by_cases e : p.1 = k
    · have e' : q.1 = k:=h1.symm.trans e
      have b : atKey (q::qs) k = some q.2:=by simp [atKey,List.find?_cons,e']
      rw [valV_pos e,b]; exact h2
    · have e' : ¬ q.1 = k:=fun z=>e (h1.trans z)
      have b : atKey (q::qs) k = atKey qs k:=by simp [atKey,List.find?_cons,e']
      rw [valV_neg e,b]; exact ih
theorem KT.repl {H : Hp} {kvs : List (List Key × V)} {xs : List (List Key × Addr × Value)} (r : KT H kvs xs) (k : List Key) {y : V} {u : Value} (ry : RelV y u) :
    KT H (kvs.map fun kv=>if kv.1 = k then (kv.1,y) else kv) (xs.map (putAt k u)):=by
  induction r with
  | nil=>exact .nil
  | @cons p q ps qs h t ih =>
    rw [List.map_cons,List.map_cons]
    refine .cons ?_ ih
    obtain ⟨h1,h2,h3⟩:=h
    unfold putAt
    by_cases e : p.1 = k
    · rw [if_pos e,if_pos (h1.symm.trans e)]; exact ⟨h1,h2,ry⟩
    · rw [if_neg e,if_neg (fun z=>e (h1.trans z))]; exact ⟨h1,h2,h3⟩
theorem KT.put {H : Hp} {kvs : List (List Key × V)} {xs : List (List Key × Addr × Value)} (r : KT H kvs xs) (k : List Key) {b : Addr} {y : V} {u : Value} (hb : H b = some (.tup (k.map kV))) (ry : RelV y u) :
    KT H (putK kvs k y) (storedH xs k b u):=by
  have e : (kvs.any fun kv=>decide (kv.1 = k)) = (atKey xs k).isSome:=by
    rw [valV_any,(r.val k).isSome_eq,Option.isSome_map]
  unfold putK storedH
  rw [e]
  by_cases q : (atKey xs k).isSome = true
  · rw [if_pos q,if_pos q]; exact r.repl k ry
  · rw [if_neg q,if_neg q]; exact Paired.snoc r ⟨rfl,hb,ry⟩
theorem KT.keeps {H H' : Hp} {kvs : List (List Key × V)} {xs : List (List Key × Addr × Value)} (r : KT H kvs xs) (ht : ∀ b ys,H b = some (.tup ys)→H' b = some (.tup ys)) : KT H' kvs xs :=
  Paired.mapP r fun _ _ z=>⟨z.1,ht _ _ z.2.1,z.2.2⟩
section
variable {P : Program} {w : World} {H : Hp} {h : Heap} {a : Addr}
theorem rd_of {u : HO} (ok : HOk P w H h) (e : Rd H a u) : ObjOk P w H h a u:=e.ok ok
theorem dk_rd {kvs : List (Key × V)} (ok : HOk P w H h) (e : Rd H a (.dK kvs)) : kvs.length ≤ sizeLine∧(a == sysModules) = false∧∃ vs,KV kvs vs∧h.DictOf (mixKind P w) a vs :=
  show ObjOk P w H h a (.dK kvs) from rd_of ok e
theorem dk_of {kvs : List (Key × V)} (ok : HOk P w H h) (e : H a = some (.dK kvs)) : kvs.length ≤ sizeLine∧(a == sysModules) = false∧∃ vs,KV kvs vs∧h.DictOf (mixKind P w) a vs:=dk_rd ok (.inl e)
theorem key_of {ks : List Key} (ok : HOk P w H h) (e : H a = some (.tup (ks.map kV))) : (tupleKind (mixKind P w)).is h ks a:=by
  obtain ⟨_,its,r,o,h1,h2,n,h3⟩:=(show ObjOk P w H h a (.tup (ks.map kV)) from ok a _ e)
  exact ⟨o,its.toArray,n,h1,h2,h3,by simpa using items_are r⟩
theorem dt_rd {kvs : List (List Key × V)} (ok : HOk P w H h) (e : Rd H a (.dT kvs)) : kvs.length ≤ sizeLine∧(a == sysModules) = false ∧
    ∃ xs,KT H kvs xs∧h.DictOfH (tupleKind (mixKind P w)) a xs:=by
  obtain ⟨z,y,xs,r,o,es,ep,h1,h2,h3,h4,h5⟩:=(show ObjOk P w H h a (.dT kvs) from rd_of ok e)
  refine ⟨z,y,xs,r,o,es,ep,h1,h2,h3,h4,fun x hx=>?_,h5⟩
  have all : ∀ {l : List (List Key × V)} {m : List (List Key × Addr × Value)},KT H l m→∀ x ∈ m,(tupleKind (mixKind P w)).is h x.1 x.2.1:=by
    intro l m q
    induction q with
    | nil=>intro x hx; exact nomatch hx
    | @cons p q ps qs hq t ih =>
      intro x hx
      rcases List.mem_cons.mp hx with e | hx
      · subst e
        exact key_of ok (by rw [← hq.1]; exact hq.2.1)
      · exact ih x hx
  exact all r x hx
theorem dt_of {kvs : List (List Key × V)} (ok : HOk P w H h) (e : H a = some (.dT kvs)) : kvs.length ≤ sizeLine∧(a == sysModules) = false ∧
    ∃ xs,KT H kvs xs∧h.DictOfH (tupleKind (mixKind P w)) a xs:=dt_rd ok (.inl e)
end
def DGet (H : Hp) (a : Addr) (y : V) (r : Option V) : Prop :=
  (∃ kvs k,Rd H a (.dK kvs)∧y = kV k∧r = valV kvs k)∨∃ kvs k b,Rd H a (.dT kvs)∧y = .ref b∧H b = some (.tup (k.map kV))∧r = valV kvs k
def DPut (H : Hp) (a : Addr) (y v : V) (H' : Hp) : Prop :=
  (∃ kvs k,H a = some (.dK kvs)∧y = kV k∧kvs.length < sizeLine∧H' = upd H a (.dK (putK kvs k v))) ∨
  ∃ kvs k b,H a = some (.dT kvs)∧y = .ref b∧H b = some (.tup (k.map kV))∧kvs.length < sizeLine∧H' = upd H a (.dT (putK kvs k v))
theorem DGet.k {H : Hp} {a : Addr} {kvs : List (Key × V)} {k : Key} (e : H a = some (.dK kvs)) : DGet H a (kV k) (valV kvs k):=.inl ⟨kvs,k,.inl e,rfl,rfl⟩
theorem DGet.t {H : Hp} {a b : Addr} {kvs : List (List Key × V)} {k : List Key} (e : H a = some (.dT kvs)) (eb : H b = some (.tup (k.map kV))) : DGet H a (.ref b) (valV kvs k):=.inr ⟨kvs,k,b,.inl e,rfl,eb,rfl⟩
theorem DPut.k {H : Hp} {a : Addr} {kvs : List (Key × V)} {k : Key} {v : V} (e : H a = some (.dK kvs)) (hl : kvs.length < sizeLine) : DPut H a (kV k) v (upd H a (.dK (putK kvs k v))):=.inl ⟨kvs,k,e,rfl,hl,rfl⟩
theorem DPut.t {H : Hp} {a b : Addr} {kvs : List (List Key × V)} {k : List Key} {v : V} (e : H a = some (.dT kvs)) (eb : H b = some (.tup (k.map kV))) (hl : kvs.length < sizeLine) :
    DPut H a (.ref b) v (upd H a (.dT (putK kvs k v))):=.inr ⟨kvs,k,b,e,rfl,eb,hl,rfl⟩
section
variable {X : Cx} {pins : List (Addr × Obj)} {σ : St} {H : Hp} {s : Shared} {a : Addr} {y v : V} {u r : Value} {o : Option V} {A : Around} {E : Value→Shared→Prop}
theorem Inv.big (I : Inv X pins σ H s) : sysModules < s.heap.objs.size:=by
  have h : mainGlobals < s.heap.objs.size:=(I.mod.glob.keeps I.bk).lt
  exact Nat.lt_trans (by decide) h
theorem d_getItem {Q : Value→Shared→Prop} (hu : A.units + 1 < cLine) (I : Inv X pins σ H s) (g : DGet H a y (some v)) (ry : RelV y u) (h : ∀ w' s',Inv X pins σ H s'→RelV v w'→Q w' s') :
    wpAny (model X.prog X.w) A (getItem (.ref a) u) Q E s:=by
  rcases g with ⟨kvs,k,e,ey,l⟩ | ⟨kvs,k,b,e,ey,eb,l⟩
  · subst ey
    obtain ⟨z,hd,vs,rel,dd⟩:=dk_rd I.hok e
    obtain ⟨w',hw,rw'⟩:=RelO.some_of (v:=v) (o:=valueAt vs k) (by rw [l]; exact rel.val k)
    exact wpAny_getItem_of (kV_is ry) dd.mapOf hw (h w' _ (I.tok _) rw')
  · subst ey
    cases (show u = Value.ref b from ry)
    obtain ⟨z,hd,xs,rel,dd⟩:=dt_rd I.hok e
    obtain ⟨w',hw,rw'⟩:=RelO.some_of (v:=v) (o:=(atKey xs k).map (·.2)) (by rw [l]; exact rel.val k)
    obtain ⟨p,hp,hp2⟩:=Option.map_eq_some_iff.mp hw
    refine wpAny_getItem_heap (tupleKind_room_in1 hu) (key_of I.hok eb) dd hp ?_
    rw [hp2]
    exact h w' _ (I.tok _) rw'
theorem d_in {Q : Value→Shared→Prop} (hu : A.units + 1 < cLine) (I : Inv X pins σ H s) (g : DGet H a y o) (ry : RelV y u) (h : ∀ s',Inv X pins σ H s'→Q (.bool o.isSome) s') :
    wpAny (model X.prog X.w) A (compareOp .In u (.ref a)) Q E s:=by
  rcases g with ⟨kvs,k,e,ey,l⟩ | ⟨kvs,k,b,e,ey,eb,l⟩
  · subst ey
    obtain ⟨z,hd,vs,rel,dd⟩:=dk_rd I.hok e
    refine wpAny_in_of (kV_is ry) hd dd.mapOf ?_
    rw [← (rel.val k).isSome_eq,← l]
    exact h _ (I.tok _)
  · subst ey
    cases (show u = Value.ref b from ry)
    obtain ⟨z,hd,xs,rel,dd⟩:=dt_rd I.hok e
    refine wpAny_in_heap (tupleKind_room_in1 hu) (key_of I.hok eb) hd dd ?_
    have q:=(rel.val k).isSome_eq
    rw [Option.isSome_map] at q
    rw [← q,← l]
    exact h _ (I.tok _)
theorem d_notIn {Q : Value→Shared→Prop} (hu : A.units + 1 < cLine) (I : Inv X pins σ H s) (g : DGet H a y o) (ry : RelV y u) (h : ∀ s',Inv X pins σ H s'→Q (.bool (!o.isSome)) s') :
    wpAny (model X.prog X.w) A (compareOp .NotIn u (.ref a)) Q E s:=by
  rcases g with ⟨kvs,k,e,ey,l⟩ | ⟨kvs,k,b,e,ey,eb,l⟩
  · subst ey
    obtain ⟨z,hd,vs,rel,dd⟩:=dk_rd I.hok e
    refine wpAny_notIn_of (kV_is ry) hd dd.mapOf ?_
    rw [← (rel.val k).isSome_eq,← l]
    exact h _ (I.tok _)
  · subst ey
    cases (show u = Value.ref b from ry)
    obtain ⟨z,hd,xs,rel,dd⟩:=dt_rd I.hok e
    refine wpAny_notIn_heap (tupleKind_room_in1 hu) (key_of I.hok eb) hd dd ?_
    have q:=(rel.val k).isSome_eq
    rw [Option.isSome_map] at q
    rw [← q,← l]
    exact h _ (I.tok _)
theorem d_write {h' : Heap} {t' : Nat} {ob : HO} (I : Inv X pins σ H s) (mu : Mut (H a)) (hs : Heap.SameBut a s.heap h') (he : ∃ q,h'.get? a = some q) (new : ObjOk X.prog X.w (upd H a ob) h' a ob) :
    Inv X pins σ (upd H a ob) { s with heap:=h',toks:=t' } :=
  I.write (x:=a) (e:=a) mu (.inl rfl) (fun b q hb z=>(hs.2 b hb).trans z) he new
theorem dk_new {P : Program} {w : World} {H' : Hp} {h' : Heap} {kvs : List (Key × V)} {vs : List (Key × Value)} (z : kvs.length ≤ sizeLine) (hd : (a == sysModules) = false) (rel : KV kvs vs) (dd : h'.DictOf (mixKind P w) a vs) :
    ObjOk P w H' h' a (.dK kvs):=⟨z,hd,vs,rel,dd⟩
theorem d_setItem {H' : Hp} {Q : Unit→Shared→Prop} (hu : A.units + 1 < cLine) (I : Inv X pins σ H s) (g : DPut H a y v H') (ry : RelV y u) (rv : RelV v r) (h : ∀ s',Inv X pins σ H' s'→Q () s') :
    wpAny (model X.prog X.w) A (setItem (.ref a) u r) Q E s:=by
  rcases g with ⟨kvs,k,e,ey,l,eH⟩ | ⟨kvs,k,b,e,ey,eb,l,eH⟩
  · subst ey eH
    obtain ⟨z,hd,vs,rel,dd⟩:=dk_of I.hok e
    have hz : vs.length ≤ sizeLine:=by rw [← rel.length]; exact z
    have hl : (putK kvs k v).length ≤ sizeLine:=by have:=length_putK kvs k v; omega
    refine wpAny_setItem_pairs (hsz:=hz) (kV_is ry) dd fun h' dd' hs=>h _ ?_
    have he : ∃ q,h'.get? a = some q:=let ⟨q,_,_,hq,_⟩:=dd'; ⟨q,hq⟩
    exact d_write I (by rw [e]; exact True.intro) hs he (dk_new hl hd (rel.put k rv) dd')
  · subst ey eH
    cases (show u = Value.ref b from ry)
    obtain ⟨z,hd,xs,rel,dd⟩:=dt_of I.hok e
    have hz : xs.length ≤ sizeLine:=by rw [← Paired.length rel]; exact z
    have hl : (putK kvs k v).length ≤ sizeLine:=by have:=length_putK kvs k v; omega
    refine wpAny_setItem_heap (hsz:=hz) (tupleKind_room_in1 hu) (key_of I.hok eb) dd fun h' dd' hs=>h _ ?_
    obtain ⟨q,es,ep,hq,h2,h3,h4,_,h5⟩:=dd'
    refine d_write I (by rw [e]; exact True.intro) hs ⟨q,hq⟩ ⟨hl,hd,_,(rel.put k eb rv).keeps fun c ys ec=>?_,q,es,ep,hq,h2,h3,h4,h5⟩
    rw [upd_ne (ne_of ec e (fun z=>nomatch z))]
    exact ec
end
section
variable {X : Cx} {pins : List (Addr × Obj)} {σ : St} {H : Hp} {s : Shared} {a : Addr} {kvs : List (Key × V)} {k : Key} {u : Value} {A : Around} {E : Value→Shared→Prop}
end
def NoSl (i : Expr) : Prop:=∀ ov iv,subscripted i false ov iv = operate [ov,iv] (getItem ov iv)
theorem subD_of {prog : Program} {w : World} {A : Around} {E : Value→Shared→Prop} {s : Shared} {env : Env} {value slice : Expr} {pos : Pos} {T id : String} {Q : Value→Shared→Prop}
    (hl : typeLookup (.type T) "__getitem__" = pure (some (.builtin id))) (hs : NoSl slice)
    (h : wpAny (model prog w) A (eval value env) (fun o s₁=>wpAny (model prog w) A (eval slice env) (fun i s₂=>s₂.TypeIs o T∧wpAny (model prog w) A (getItem o i) Q E s₂) E s₁) E s) :
    wpAny (model prog w) A (eval (.Subscript value slice pos) env) Q E s:=by
  refine Subscript_ (wpAny_mono h (fun o s₁ h₁=>wpAny_mono h₁ (fun i s₂ h₂=>?_) fun _ _ x=>x) fun _ _ x=>x)
  obtain ⟨hT,h₂⟩:=h₂
  unfold subscriptTail
  refine wpAny_bind ?_
  rw [getitemInPython_of_ne hT.not_modules]
  refine wpAny_bind (wpAny_specialOf hT hl ?_)
  have fin : wpAny (model prog w) A (subscripted slice false o i) (fun r s₃=>wpAny (model prog w) A (letTemporaryGo value o r >>= fun _=>pure r) Q E s₃) E s₂:=by
    rw [hs o i]
    exact wpAny_operating (wpAny_mono h₂ (fun r s₃ h₃=>wpAny_bind (wpAny_letTemporaryGo (wpAny_pure h₃))) fun _ _ x=>x)
  first
    | exact wpAny_pure (wpAny_bind fin)
    | exact wpAny_bind (wpAny_pure (wpAny_bind fin))
    | exact wpAny_bind fin
theorem dict_typeIs {X : Cx} {pins : List (Addr × Obj)} {σ : St} {H : Hp} {s : Shared} {a : Addr} {y : V} {o : Option V} (I : Inv X pins σ H s) (g : DGet H a y o) : s.TypeIs (.ref a) "dict":=by
  rcases g with ⟨kvs,k,e,_,_⟩ | ⟨kvs,k,b,e,_,_,_⟩
  · obtain ⟨_,_,vs,_,dd⟩:=dk_rd I.hok e
    exact dd.typeIs
  · obtain ⟨_,_,xs,_,dd⟩:=dt_rd I.hok e
    exact dd.typeIs
def tDGet (td ty : TE) : TE:=fun σ H Q=>td σ H fun x H1=>ty σ H1 fun y H2=>∃ a v,x = .ref a∧DGet H2 a y (some v)∧Q v H2
def tDIn (ty td : TE) : TE:=fun σ H Q=>ty σ H fun y H1=>td σ H1 fun x H2=>∃ a o,x = .ref a∧DGet H2 a y o∧Q (.bl o.isSome) H2
def tDNotIn (ty td : TE) : TE:=fun σ H Q=>ty σ H fun y H1=>td σ H1 fun x H2=>∃ a o,x = .ref a∧DGet H2 a y o∧Q (.bl (!o.isSome)) H2
def sDPut (td ty tv : TE) : TS:=fun D σ H=>tv σ H fun v H1=>td σ H1 fun x H2=>ty σ H2 fun y H3=>∃ a H4,x = .ref a∧DPut H3 a y v H4∧D.nx σ H4
section
variable {X : Cx} {o i e value : Expr} {pos pos' tpos : Pos} {td ty tv : TE}
theorem pe_dget (hu : X.A.units + 1 < cLine) (ho : PE X o td) (hi : PE X i ty) (hs : NoSl i) : PE X (.Subscript o i pos) (tDGet td ty):=by
  intro pins s σ H Q I h
  refine subD_of PySem.F.slot_dict_getitem.lookup hs (thn (ho pins s σ H _ I h) fun u s1 ⟨x,H1,I1,rx,q1⟩=>thn (hi pins s1 σ H1 _ I1 q1) fun iv s2 ⟨y,H2,I2,ry,a,v,ex,g,q2⟩=>?_)
  subst ex
  obtain rfl : u = Value.ref a:=rx
  exact ⟨dict_typeIs I2 g,d_getItem hu I2 g ry fun w' s3 I3 rw'=>⟨v,H2,I3,rw',q2⟩⟩
theorem pc_din (hu : X.A.units + 1 < cLine) (hi : PE X i ty) (ho : PE X o td) : PC X .In i o (tDIn ty td):=by
  intro pins s σ H Q I h
  refine thn (hi pins s σ H _ I h) fun iv s1 ⟨y,H1,I1,ry,q1⟩=>thn (ho pins s1 σ H1 _ I1 q1) fun u s2 ⟨x,H2,I2,rx,a,ov,ex,g,q2⟩=>?_
  subst ex
  obtain rfl : u = Value.ref a:=rx
  exact d_in hu I2 g ry fun s3 I3=>⟨.bl ov.isSome,H2,I3,rfl,q2⟩
theorem pc_dnotin (hu : X.A.units + 1 < cLine) (hi : PE X i ty) (ho : PE X o td) : PC X .NotIn i o (tDNotIn ty td):=by
  intro pins s σ H Q I h
  refine thn (hi pins s σ H _ I h) fun iv s1 ⟨y,H1,I1,ry,q1⟩=>thn (ho pins s1 σ H1 _ I1 q1) fun u s2 ⟨x,H2,I2,rx,a,ov,ex,g,q2⟩=>?_
  subst ex
  obtain rfl : u = Value.ref a:=rx
  exact d_notIn hu I2 g ry fun s3 I3=>⟨.bl (!ov.isSome),H2,I3,rfl,q2⟩
theorem ps_dput (hu : X.A.units + 1 < cLine) (ho : PE X o td) (hi : PE X i ty) (hv : PE X value tv) (hs : swapsWith value (some (.Subscript o i pos')) pos.line X.env = pure false) :
    PS X (.Assign [.Subscript o i pos'] value pos) (sDPut td ty tv):=by
  intro pins s σ H D I h
  refine wpAny_Assign_Subscript (thn (hv pins s σ H _ I h) fun r s1 ⟨v,H1,I1,rv,q1⟩=>thn (ho pins s1 σ H1 _ I1 q1) fun u s2 ⟨x,H2,I2,rx,q2⟩=>thn (hi pins s2 σ H2 _ I2 q2) fun iv s3 ⟨y,H3,I3,ry,a,H4,ex,g,q3⟩=>?_) hs
  subst ex
  obtain rfl : u = Value.ref a:=rx
  exact d_setItem hu I3 g ry rv fun s4 I4=>⟨σ,H4,I4,q3⟩
end
theorem dk_empty {P : Program} {w : World} {H : Hp} (h : Heap) (hb : sysModules < h.objs.size) : ObjOk P w H (h.push { cls:=.type "dict",data:=.dict #[] }) h.objs.size (.dK []) :=
  ⟨Nat.zero_le _,beq_eq_false_iff_ne.mpr (Ne.symm (Nat.ne_of_lt hb)),[],.nil,Heap.DictOf.new h⟩
def tDNewK : TE:=fun _ H Q=>∀ p,H p = none→Q (.ref p) (upd H p (.dK []))
section
variable {X : Cx} {pos : Pos}
theorem pe_dnewK : PE X (.Dict [] [] pos) tDNewK:=fun pins s σ H Q I h =>
  wpAny_Dict_empty ⟨.ref s.heap.objs.size,_,I.laid (a:=s.heap.objs.size) (o:=.dK []) (t':=s.toks) (fun _ _ q=>Heap.get?_push_of_some _ q) (Nat.le_refl _) (dk_empty s.heap I.big),rfl,h _ (I.hok.fresh (Nat.le_refl _))⟩
end
def tPairs : List (TE × TE)→St→Hp→(List (V × V)→Hp→Prop)→Prop
  | [],_,H,Q=>Q [] H
  | (tk,tv)::r,σ,H,Q=>tk σ H fun x H1=>tv σ H1 fun y H2=>tPairs r σ H2 fun ps H3=>Q ((x,y)::ps) H3
abbrev VV : List (V × V)→List (Value × Value)→Prop:=Paired fun p q=>RelV p.1 q.1∧RelV p.2 q.2
def PPs (X : Cx) (pos : Pos) (keys : List (Option Expr)) (values : List Expr) (trs : List (TE × TE)) : Prop :=
  ∀ (pins : List (Addr × Obj)) (s : Shared) (σ : St) (H : Hp) (Q : List (V × V)→Hp→Prop),Inv X pins σ H s→tPairs trs σ H Q →
    wpAny (model X.prog X.w) X.A (evalPairs (pairTrees keys values X.env pos)) (fun vs s'=>∃ ps H',Inv X pins σ H' s'∧VV ps vs∧Q ps H') X.xe s
theorem pps_nil {X : Cx} {pos : Pos} : PPs X pos [] [] []:=fun pins s σ H Q I h=>pairTrees_nil_walk ⟨[],H,I,.nil,h⟩
theorem pps_cons {X : Cx} {pos : Pos} {k v : Expr} {ks : List (Option Expr)} {vs : List Expr} {tk tv : TE} {trs : List (TE × TE)} (hk : PE X k tk) (hv : PE X v tv) (hr : PPs X pos ks vs trs) :
    PPs X pos (some k::ks) (v::vs) ((tk,tv)::trs):=fun pins s σ H Q I h =>
  pairTrees_cons_walk (thn (hk pins s σ H _ I h) fun u s1 ⟨x,H1,I1,rx,q1⟩=>thn (hv pins s1 σ H1 _ I1 q1) fun w2 s2 ⟨y,H2,I2,ry,q2⟩ =>
    thn (hr pins s2 σ H2 _ I2 q2) fun ws s3 ⟨ps,H3,I3,rel,q3⟩=>⟨(x,y)::ps,H3,I3,.cons ⟨rx,ry⟩ rel,q3⟩)
def mergeK (kvs more : List (Key × V)) : List (Key × V):=more.foldl (fun acc kv=>putK acc kv.1 kv.2) kvs
theorem KV.merge : ∀ {more : List (Key × V)} {rs : List (Key × Value)} {kvs : List (Key × V)} {vs : List (Key × Value)},KV more rs→KV kvs vs→KV (mergeK kvs more) (merged vs rs):=by
  intro more rs kvs vs r
  unfold KV at r
  induction r generalizing kvs vs with
  | nil=>intro q; exact q
  | @cons p q ps qs h t ih =>
    intro r0
    have e : KV (putK kvs p.1 p.2) (stored vs q.1 q.2):=by
      have:=r0.put p.1 h.2
      rw [← h.1]; exact this
    exact ih e
theorem length_mergeK : ∀ (more kvs : List (Key × V)),(mergeK kvs more).length ≤ kvs.length + more.length
  | [],kvs=>by show kvs.length ≤ kvs.length + 0; omega
  | p::r,kvs=>by
    have h1:=length_mergeK r (putK kvs p.1 p.2)
    have h2:=length_putK kvs p.1 p.2
    show (mergeK (putK kvs p.1 p.2) r).length ≤ _
    rw [List.length_cons]; omega
theorem carries_of {P : Program} {w : World} : ∀ {kvs : List (Key × V)} {ws : List (Value × Value)},VV (kvs.map fun kv=>(kV kv.1,kv.2)) ws→∃ rs,Carries (mixKind P w) ws rs∧KV kvs rs
  | [],_,r=>by rw [List.map_nil] at r; cases r; exact ⟨[],True.intro,.nil⟩
  | p::kvs,_,r=>by
    rw [List.map_cons] at r
    cases r with
    | @cons a b as bs h t =>
      obtain ⟨rs,c,q⟩:=carries_of (P:=P) (w:=w) t
      obtain ⟨b1,b2⟩:=b
      exact ⟨(p.1,b2)::rs,⟨kV_is h.1,rfl,c⟩,.cons ⟨rfl,h.2⟩ q⟩
def tDisp (trs : List (TE × TE)) : TE:=fun σ H Q=>∀ p,H p = none→tPairs trs σ (upd H p (.dK [])) fun ps H2=>H2 p = some (.dK [])∧∃ kvs : List (Key × V),ps = kvs.map (fun kv=>(kV kv.1,kv.2))∧kvs.length ≤ 15∧Q (.ref p) (upd H2 p (.dK (mergeK [] kvs)))
theorem pe_disp {X : Cx} {pos : Pos} {keys : List (Option Expr)} {values : List Expr} {trs : List (TE × TE)} (h : PPs X pos keys values trs) (hall : keys.all (·.isSome) = true) (hl : keys.length = values.length) (h0 : keys ≠ [])
    (h15 : keys.length ≤ 15) : PE X (.Dict keys values pos) (tDisp trs):=by
  intro pins s σ H Q I q
  have hn:=I.hok.fresh (Nat.le_refl s.heap.objs.size)
  have I1:=I.laid (a:=s.heap.objs.size) (o:=.dK []) (h':=s.heap.push { cls:=.type "dict",data:=.dict #[] }) (t':=s.toks) (fun _ _ q=>Heap.get?_push_of_some _ q) (Nat.le_refl _) (dk_empty s.heap I.big)
  refine wpAny_Dict_walk (knd:=mixKind X.prog X.w) hall hl h0 h15 (thn (h pins _ σ _ _ I1 (q _ hn)) fun ws s2 ⟨ps,H2,I2,rel,e,kvs,ep,lk,q2⟩=>?_)
  subst ep
  obtain ⟨rs,c,rk⟩:=carries_of (P:=X.prog) (w:=X.w) rel
  obtain ⟨z,hd,vs0,r0,dd⟩:=dk_of I2.hok e
  cases r0
  refine ⟨rs,c,dd,fun h' dd' hs=>⟨.ref s.heap.objs.size,_,?_,rfl,q2⟩⟩
  have hz : (mergeK [] kvs).length ≤ sizeLine:=by
    have h1:=length_mergeK kvs []
    rw [List.length_nil] at h1
    rw [sizeLine_eq]; omega
  have he : ∃ q,h'.get? s.heap.objs.size = some q:=let ⟨q,_,_,hq,_⟩:=dd'; ⟨q,hq⟩
  exact d_write I2 (by rw [e]; exact True.intro) hs he (dk_new hz hd (rk.merge .nil) dd')
structure M1 (X : Cx) (o : Expr) (m : Str) (apos : Pos) (e : Expr) (cpos : Pos) : Prop where
  base : attributeBase o m X.env (eval o X.env) = eval o X.env
  few : ((backTo cpos (starEach [e] X.env)).all (fun x=>!x.1) && (backToKw cpos (keywordEach [] X.env)).all (fun x=>x.1.isSome)
    && decide (([e] : List Expr).length + ([] : List Keyword).length + (if ([] : List Keyword).isEmpty then 0 else 1) < 30)) = true
  line : (apos.endLine == cpos.line) = true
  trees : backTo cpos (starEach [e] X.env) = [(false,eval e X.env)]
structure M2 (X : Cx) (o : Expr) (m : Str) (apos : Pos) (e f : Expr) (cpos : Pos) : Prop where
  base : attributeBase o m X.env (eval o X.env) = eval o X.env
  few : ((backTo cpos (starEach [e,f] X.env)).all (fun x=>!x.1) && (backToKw cpos (keywordEach [] X.env)).all (fun x=>x.1.isSome)
    && decide (([e,f] : List Expr).length + ([] : List Keyword).length + (if ([] : List Keyword).isEmpty then 0 else 1) < 30)) = true
  line : (apos.endLine == cpos.line) = true
  trees : backTo cpos (starEach [e,f] X.env) = [(false,eval e X.env),(false,eval f X.env)]
def IsD (H : Hp) (a : Addr) : Prop:=(∃ kvs,Rd H a (.dK kvs))∨∃ kvs,Rd H a (.dT kvs)
theorem isD_at {X : Cx} {pins : List (Addr × Obj)} {σ : St} {H : Hp} {s : Shared} {a : Addr} (I : Inv X pins σ H s) (d : IsD H a) :
    s.TypeIs (.ref a) "dict"∧(∀ b,Value.ref a = .ref b→∃ ob,s.heap.get? b = some ob∧ob.dict = none)∧(a == sysModules) = false:=by
  rcases d with ⟨kvs,e⟩ | ⟨kvs,e⟩
  · obtain ⟨_,hd,vs,_,dd⟩:=dk_rd I.hok e
    refine ⟨dd.typeIs,fun b q=>?_,hd⟩
    cases q
    obtain ⟨ob,_,_,h1,h2,_⟩:=dd
    exact ⟨ob,h1,h2.2.1⟩
  · obtain ⟨_,hd,xs,_,dd⟩:=dt_rd I.hok e
    refine ⟨dd.typeIs,fun b q=>?_,hd⟩
    cases q
    obtain ⟨ob,_,_,h1,h2,_⟩:=dd
    exact ⟨ob,h1,h2.2.1⟩
section
variable {X : Cx} {pins : List (Addr × Obj)} {σ : St} {H : Hp} {s : Shared} {a : Addr} {y d : V} {u r : Value} {o : Option V} {A : Around} {E : Value→Shared→Prop}
theorem d_get1 {Q : Value→Shared→Prop} (hu : A.units + 1 < cLine) (I : Inv X pins σ H s) (g : DGet H a y o) (ry : RelV y u) (h : ∀ w' s',Inv X pins σ H s'→RelV (o.getD .non) w'→Q w' s') :
    wpAny (model X.prog X.w) A (call (.builtin "dict.get") [.ref a,u]) Q E s:=by
  rcases g with ⟨kvs,k,e,ey,l⟩ | ⟨kvs,k,b,e,ey,eb,l⟩
  · subst ey
    obtain ⟨z,hd,vs,rel,dd⟩:=dk_rd I.hok e
    refine call_meetsIn PySem.F.slot_dict_get dd.typeIs PySem.F.entry_dict_get (PySem.F.args_dict_get_2 _ _) (meets_dict_get (mixKind X.prog X.w) a (kV_is ry) hd) ⟨_,dd.mapOf,h _ _ (I.tok _) ?_⟩
    rw [l]
    exact (rel.val k).getD rfl
  · subst ey
    cases (show u = Value.ref b from ry)
    obtain ⟨z,hd,xs,rel,dd⟩:=dt_rd I.hok e
    refine call_meetsIn PySem.F.slot_dict_get dd.typeIs PySem.F.entry_dict_get (PySem.F.args_dict_get_2 _ _) (meetsH_dict_get (tupleKind (mixKind X.prog X.w)) a b hd) ⟨tupleKind_room_in1 hu,k,xs,key_of I.hok eb,dd,h _ _ (I.tok _) ?_⟩
    rw [l]
    exact (rel.val k).getD rfl
end
def tDGet1 (td ty : TE) : TE:=fun σ H Q=>td σ H fun x H1=>∃ a,x = .ref a∧IsD H1 a∧ty σ H1 fun y H2=>∃ o,DGet H2 a y o∧Q (o.getD .non) H2
section
variable {X : Cx} {o e f : Expr} {apos cpos : Pos} {td ty tx : TE}
theorem pe_dget1 (hu : X.A.units + 1 < cLine) (ho : PE X o td) (he : PE X e ty) (m : M1 X o "get" apos e cpos) : PE X (.Call (.Attribute o "get" apos) [e] [] cpos) (tDGet1 td ty):=by
  intro pins s σ H Q I h
  refine wpAny_Call_method m.base m.few m.line PySem.F.plainAttrs_dict PySem.F.slot_dict_get PySem.F.type_dict_get (thn (ho pins s σ H _ I h) fun u s1 ⟨x,H1,I1,rx,a,ex,d,q1⟩=>?_)
  subst ex
  obtain rfl : u = Value.ref a:=rx
  obtain ⟨t1,t2,_⟩:=isD_at I1 d
  refine ⟨t1,t2,?_⟩
  rw [m.trees]
  refine Calls.callWith_builtin rfl (Calls.evalArgs_plain (Calls.spliced_cons (thn (he pins s1 σ H1 _ I1 q1) fun iv s2 ⟨y,H2,I2,ry,ov,g,q2⟩=>Calls.spliced_nil ?_)))
  exact d_get1 hu I2 g ry fun w' s3 I3 rw'=>⟨_,H2,I3,rw',q2⟩
end
section
variable {X : Cx} {pins : List (Addr × Obj)} {σ : St} {H : Hp} {s : Shared} {a : Addr} {kvs : List (Key × V)} {A : Around} {E : Value→Shared→Prop}
end
section
variable {X : Cx} {pins : List (Addr × Obj)} {σ : St} {H : Hp} {s : Shared} {a : Addr} {y : V} {u : Value} {A : Around} {E : Value→Shared→Prop}
end
end L2
end
section
set_option linter.all false
namespace M
open PySem (Str Operator CmpOp)
inductive D where
  | non | bl (b : Bool) | int (i : Int) | str (s : Str) | tup (ds : List D) | lst (ds : List D) | loc (l : Nat)
  deriving Inhabited
inductive Cell where
  | lst (w : Bool) (ds : List D)
  /-- a dict,its keys ints and texts -/
  | dic (kvs : List (D × D))
  deriving Inhabited
abbrev Store:=List Cell
abbrev Sl:=List (Option D)
def lim : Nat:=16777216
inductive Ty where
  | non | bl | int | str | tup | lst
  deriving DecidableEq
def Ty.name : Ty→String
  | .non=>"NoneType"
  | .bl=>"bool"
  | .int=>"int"
  | .str=>"str"
  | .tup=>"tuple"
  | .lst=>"list"
inductive B where
  | len | min | max | tuple | list | all | sorted | int | str
inductive Mt where
  | append | find | join | split | extend | index
inductive T where
  | var (i : Nat)
  | tup (is : List Nat)
def T.slots : T→List Nat
  | .var i=>[i]
  | .tup is=>is
inductive E where
  | var (i : Nat)
  | lit (d : D)
  | glo (x : Str) (d : D)
  | bin (op : Operator) (a b : E)
  | neg (a : E)
  | not (a : E)
  | cmp (op : CmpOp) (a b : E)
  | cmp2 (op op' : CmpOp) (a b c : E)
  | and (a b : E)
  | or (a b : E)
  | ite (c a b : E)
  | tup (es : List E)
  | lst (es : List E)
  | idx (a b : E)
  | sli (a : E) (lo hi : Option E)
  | call (f : Nat) (es : List E)
  | bcall (f : B) (es : List E)
  | isi (a : E) (ts : List Ty) (many : Bool)
  | meth (a : E) (m : Mt) (es : List E)
  /-- what a part made is dropped where nothing else holds it; a list that it tells is a value from then on -/
  | gc (a : E)
  | rng1 (a : E)
  | rng2 (a b : E)
  | rng3 (a b c : E)
  | zip (a b : E)
  /-- a written dict: key,value,key,value .. -/
  | dic (es : List E)
  | didx (a b : E)
  | din (neg : Bool) (a b : E)
  | dgt (a b : E)
  | fmt (a : E)
  | fstr (es : List E)
  /-- of a dict of the file's top: its keys,its values -/
  | gidx (x : Str) (ks : List Str) (ds : List D) (b : E)
  | gin (neg : Bool) (x : Str) (ks : List Str) (b : E)
  | comp (t : T) (it : E) (test : Option E) (elt : E) (src : List (Option Nat))
inductive S where
  | set (t : T) (e : E)
  | setIx (a i e : E)
  | dset (a i e : E)
  | rais
  | expr (e : E)
  | ret (e : E)
  | retN
  | ite (c : E) (a b : List S)
  | forr (t : T) (it : E) (body : List S)
  | whil (c : E) (body : List S)
  | aug (i : Nat) (op : Operator) (e : E)
  | brk | cnt | pass
structure Fn where
  np : Nat
  nl : Nat
  body : List S
mutual
def eqT : D→D→Bool
  | .non,.non=>true
  | .bl a,.bl b=>a == b
  | .bl a,.int j=>(if a then 1 else 0) == j
  | .int i,.bl b=>i == (if b then 1 else 0)
  | .int i,.int j=>i == j
  | .str a,.str b=>a == b
  | .tup a,.tup b=>eqTs a b
  | _,_=>false
def eqTs : List D→List D→Bool
  | [],[]=>true
  | a::as,b::bs=>eqT a b && eqTs as bs
  | _,_=>false
end
mutual
/-- no place of the store within,at most n deep -/
def flat : Nat→D→Bool
  | _,.loc _=>false
  | _,.lst _=>false
  | 0,.tup _=>false
  | n + 1,.tup ds=>flats n ds
  | _,_=>true
def flats : Nat→List D→Bool
  | _,[]=>true
  | n,d::ds=>flat n d && flats n ds
end
def mulOk (i j : Int) : Bool:=(decide (-(2 ^ 64) < i) && decide (i < 2 ^ 64)) || (decide (-(2 ^ 64) < j) && decide (j < 2 ^ 64))
def listAt (st : Store) (l : Nat) : Option (List D):=match st[l]? with | some (.lst _ ds)=>some ds | _=>none
def wlistAt (st : Store) (l : Nat) : Option (List D):=match st[l]? with | some (.lst true ds)=>some ds | _=>none
def seqAt (st : Store) : D→Option (List D)
  | .loc l=>listAt st l
  | .lst ds=>some ds
  | _=>none
mutual
/-- no place of the store within -/
def noLoc : D→Bool
  | .loc _=>false
  | .tup ds=>noLocs ds
  | .lst ds=>noLocs ds
  | _=>true
def noLocs : List D→Bool
  | []=>true
  | d::ds=>noLoc d && noLocs ds
end
open Classical in
noncomputable def gcD (st : Store) (p : D × Store) : D × Store :=
  if p.2.take st.length = st then
    if noLoc p.1 then (p.1,st) else match p.1 with
      | .loc l=>if st.length ≤ l then (match p.2[l]? with
        | some (.lst true ds)=>if noLocs ds then (.lst ds,st) else p
        | _=>p) else p
      | _=>p
  else p
def dicAt (st : Store) (l : Nat) : Option (List (D × D)):=match st[l]? with | some (.dic kvs)=>some kvs | _=>none
def isKey : D→Bool
  | .int _=>true
  | .str _=>true
  | _=>false
def dget (kvs : List (D × D)) (k : D) : Option D:=(kvs.find? fun p=>eqT p.1 k).map (·.2)
def dput (kvs : List (D × D)) (k v : D) : List (D × D):=if kvs.any fun p=>eqT p.1 k then kvs.map (fun p=>if eqT p.1 k then (p.1,v) else p) else kvs++[(k,v)]
def pairUp : List D→Option (List (D × D))
  | []=>some []
  | k::v::r=>if isKey k then (pairUp r).map ((k,v)::·) else none
  | _=>none
def dall (kvs : List (D × D)) : List (D × D):=kvs.foldl (fun acc p=>dput acc p.1 p.2) []
def alloc (st : Store) (c : Cell) : D × Store:=(.loc st.length,st++[c])
def binop (st : Store) : Operator→D→D→Option (D × Store)
  | .Add,.int i,.int j=>some (.int (i + j),st)
  | .Add,.tup a,.tup b=>if a.isEmpty || decide (lim < a.length + b.length) then none else some (.tup (a++b),st)
  | .Add,.str a,.str b=>if lim < a.length + b.length then none else some (.str (a++b),st)
  | .Add,a,b=>(seqAt st a).bind fun x=>(seqAt st b).bind fun y=>if lim < x.length + y.length then none else some (alloc st (.lst true (x++y)))
  | .Sub,.int i,.int j=>some (.int (i - j),st)
  | .Mult,.int i,.int j=>if mulOk i j then some (.int (i * j),st) else none
  | .Mult,.tup a,.int k=>if decide (k < -(2 ^ 62)) || decide (2 ^ 62 ≤ k) || decide (lim < a.length * k.toNat) then none else some (.tup (List.replicate k.toNat a).flatten,st)
  | .Mult,.loc l,.int k=>(wlistAt st l).bind fun a=>if decide (k < -(2 ^ 62)) || decide (2 ^ 62 ≤ k) || decide (lim < a.length * k.toNat) then none else some (alloc st (.lst true (List.replicate k.toNat a).flatten))
  | .FloorDiv,.int i,.int j=>if 0 < j∧j < 2 ^ 64 then some (.int (i / j),st) else none
  | .Mod,.int i,.int j=>if 0 < j then some (.int (i % j),st) else none
  | .Pow,.int i,.int j=>if 0 ≤ j∧j ≤ 1000∧i.natAbs < 2 ^ 64 then some (.int (i ^ j.toNat),st) else none
  | _,_,_=>none
def ixN (n : Nat) (i : Int) : Option Nat:=if 0 ≤ i then (if i < n then some i.toNat else none) else if -(n : Int) ≤ i then some (i + n).toNat else none
def atI {α : Type} (xs : List α) (i : Int) : Option α:=(ixN xs.length i).bind fun j=>xs[j]?
def idxD (st : Store) : D→D→Option D
  | .tup ds,.int i=>atI ds i
  | .str z,.int i=>if lim < z.length then none else (atI z.cps.toList i).map fun c=>.str ⟨#[c]⟩
  | d,.int i=>(seqAt st d).bind fun ds=>atI ds i
  | _,_=>none
def cutIx (n d : Nat) : Option Int→Nat
  | none=>d
  | some v=>if v < 0 then (v + (n : Int)).toNat else min v.toNat n
def cut {α : Type} (xs : List α) (lo hi : Option Int) : List α:=(xs.drop (cutIx xs.length 0 lo)).take (cutIx xs.length xs.length hi - cutIx xs.length 0 lo)
def oneOf (z : Str) : Option Nat:=match z.cps.toList with
  | [c]=>some c
  | _=>none
def sliD (st : Store) : D→Option Int→Option Int→Option (D × Store)
  | .tup ds,lo,hi=>some (.tup (cut ds lo hi),st)
  | .str z,lo,hi=>if lim < z.length then none else some (.str ⟨(cut z.cps.toList lo hi).toArray⟩,st)
  | d,lo,hi=>(seqAt st d).map fun ds=>alloc st (.lst true (cut ds lo hi))
def inD (st : Store) (x : D) : D→Option Bool
  | .tup ds=>if flat 9 x && flats 9 ds then some (ds.any fun y=>eqT y x) else none
  | .str z=>match x with
    | .str i=>(oneOf i).map fun c=>decide (c ∈ z.cps.toList)
    | _=>none
  | d=>(seqAt st d).bind fun ds=>if flat 9 x && flats 9 ds then some (ds.any fun y=>eqT y x) else none
def eqD (st : Store) (x y : D) : Option Bool:=match seqAt st x,seqAt st y with
  | some a,some b=>if flats 9 a && flats 9 b then some (eqTs a b) else none
  | _,_=>if flat 9 x && flat 9 y then some (eqT x y) else none
def neD (st : Store) (a b : D) : Option Bool:=(eqD st a b).map (!·)
def isNon : D→Bool
  | .non=>true
  | _=>false
def cmpD (st : Store) : CmpOp→D→D→Option Bool
  | .Lt,.int i,.int j=>some (decide (i < j))
  | .LtE,.int i,.int j=>some (decide (i ≤ j))
  | .Gt,.int i,.int j=>some (decide (j < i))
  | .GtE,.int i,.int j=>some (decide (j ≤ i))
  | .Eq,x,y=>eqD st x y
  | .NotEq,x,y=>neD st x y
  | .Is,x,.non=>some (isNon x)
  | .IsNot,x,.non=>some (!isNon x)
  | .In,x,y=>inD st x y
  | .NotIn,x,y=>(inD st x y).map (!·)
  | _,_,_=>none
def tyName (st : Store) : D→Option Ty
  | .non=>some .non
  | .bl _=>some .bl
  | .int _=>some .int
  | .str _=>some .str
  | .tup _=>some .tup
  | d=>(seqAt st d).map fun _=>.lst
def tyIs (t n : Ty) : Bool:=t == n || (t == .int && n == .bl)
def truth (st : Store) : D→Option Bool
  | .non=>some false
  | .bl b=>some b
  | .int i=>some (i != 0)
  | .tup ds=>some (!ds.isEmpty)
  | .str z=>if lim < z.length then none else some ((z.length : Int) != 0)
  | d=>(seqAt st d).map fun ds=>!ds.isEmpty
def insInt (x : Int) : List Int→List Int
  | []=>[x]
  | y::r=>if x ≤ y then x::y::r else y::insInt x r
def sortInt : List Int→List Int
  | []=>[]
  | x::r=>insInt x (sortInt r)
def asInts : List D→Option (List Int)
  | []=>some []
  | .int i::r=>(asInts r).map (i::·)
  | _=>none
def asBools : List D→Option (List Bool)
  | []=>some []
  | .bl i::r=>(asBools r).map (i::·)
  | _=>none
def bLen (st : Store) : List D→Option (D × Store)
  | [.tup ds]=>some (.int ds.length,st)
  | [.str z]=>if lim < z.length then none else some (.int z.length,st)
  | [d]=>(seqAt st d).map fun ds=>(.int ds.length,st)
  | _=>none
def augD (st : Store) : Operator→D→D→Option D
  | .Add,.int i,.int j=>some (.int (i + j))
  | .Sub,.int i,.int j=>some (.int (i - j))
  | .Mult,.int i,.int j=>if mulOk i j then some (.int (i * j)) else none
  | .Add,.str a,.str b=>if lim < a.length + b.length then none else some (.str (a++b))
  | _,_,_=>none
def bMin (st : Store) : List D→Option (D × Store)
  | [.int i,.int j]=>some (.int (if j < i then j else i),st)
  | _=>none
def bMax (st : Store) : List D→Option (D × Store)
  | [.int i,.int j]=>some (.int (if j > i then j else i),st)
  | _=>none
def bTuple (st : Store) : List D→Option (D × Store)
  | [.tup ds]=>some (.tup ds,st)
  | [d]=>(seqAt st d).map fun ds=>(.tup ds,st)
  | _=>none
def bList (st : Store) : List D→Option (D × Store)
  | [.tup ds]=>some (alloc st (.lst true ds))
  | [d]=>(seqAt st d).map fun ds=>alloc st (.lst true ds)
  | _=>none
def bAll (st : Store) : List D→Option (D × Store)
  | [d]=>(seqAt st d).bind fun ds=>(asBools ds).map fun bs=>(.bl (bs.all id),st)
  | _=>none
def bSorted (st : Store) : List D→Option (D × Store)
  | [d]=>(seqAt st d).bind fun ds=>(if 64 ≤ ds.length then none else asInts ds).map fun ns=>alloc st (.lst true ((sortInt ns).map .int))
  | _=>none
def isFig (c : Nat) : Bool:=decide (48 ≤ c) && decide (c ≤ 57)
def figVal (cs : List Nat) : Nat:=cs.foldl (fun acc c=>acc * 10 + (c - 48)) 0
def bInt (st : Store) : List D→Option (D × Store)
  | [.str z]=>if !z.cps.toList.isEmpty && z.cps.toList.all isFig && decide (z.length ≤ 640) then some (.int (figVal z.cps.toList : Nat),st) else none
  | [.int i]=>some (.int i,st)
  | _=>none
def bStr (st : Store) : List D→Option (D × Store)
  | [.int i]=>if i.natAbs.log2 < 1920 then some (.str (Str.ofString (toString i)),st) else none
  | [.str z]=>some (.str z,st)
  | _=>none
def splitC (c : Nat) : List Nat→List (List Nat)
  | []=>[[]]
  | x::r=>if x = c then []::splitC c r else match splitC c r with
    | []=>[[x]]
    | p::ps=>(x::p)::ps
def mSplit (st : Store) : D→List D→Option (D × Store)
  | .str z,[.str y]=>(oneOf y).bind fun c=>if z.length < 1000000 then some (alloc st (.lst true ((splitC c z.cps.toList).map fun p=>.str ⟨p.toArray⟩))) else none
  | _,_=>none
def fmtD : D→Option D
  | .int i=>if i.natAbs.log2 < 1920 then some (.str (Str.ofString (toString i))) else none
  | .str z=>if z.length ≤ lim then some (.str z) else none
  | _=>none
def catD : List D→Str→Option Str
  | [],acc=>some acc
  | .str z::r,acc=>if (acc++z).length ≤ lim then catD r (acc++z) else none
  | _,_=>none
def asStrs : List D→Option (List Str)
  | []=>some []
  | .str i::r=>(asStrs r).map (i::·)
  | _=>none
def findC (cs : List Nat) (c : Nat) : Int:=match cs.findIdx? (· == c) with
  | some i=>(i : Int)
  | none=>-1
def mFind (st : Store) : D→List D→Option (D × Store)
  | .str z,[.str y]=>(oneOf y).map fun c=>(.int (findC z.cps.toList c),st)
  | _,_=>none
def mJoin (st : Store) : D→List D→Option (D × Store)
  | .str z,[d]=>(seqAt st d).bind fun ds=>(asStrs ds).bind fun ts=>if (ts.map (·.length)).sum + ts.length * z.length ≤ lim then some (.str (Str.join z ts),st) else none
  | _,_=>none
def bfun (st : Store) : B→List D→Option (D × Store)
  | .len=>bLen st
  | .min=>bMin st
  | .max=>bMax st
  | .tuple=>bTuple st
  | .list=>bList st
  | .all=>bAll st
  | .sorted=>bSorted st
  | .int=>bInt st
  | .str=>bStr st
def mAppend (st : Store) : D→List D→Option (D × Store)
  | .loc l,[d]=>(wlistAt st l).bind fun ds=>if ds.length < lim then some (.non,st.set l (.lst true (ds++[d]))) else none
  | _,_=>none
def mExtend (st : Store) : D→List D→Option (D × Store)
  | .loc l,[d]=>(wlistAt st l).bind fun ds=>(match d with | .tup es=>some es | d=>seqAt st d).bind fun es=>if ds.length + es.length ≤ lim then some (.non,st.set l (.lst true (ds++es))) else none
  | _,_=>none
def mIndex (st : Store) : D→List D→Option (D × Store)
  | d,[x]=>(seqAt st d).bind fun ds=>if flat 9 x && flats 9 ds then (ds.findIdx? fun y=>eqT y x).map fun (j : Nat)=>(.int (j : Int),st) else none
  | _,_=>none
def mfun (st : Store) : Mt→D→List D→Option (D × Store)
  | .append=>mAppend st
  | .find=>mFind st
  | .join=>mJoin st
  | .split=>mSplit st
  | .extend=>mExtend st
  | .index=>mIndex st
def Mt.ofList : Mt→Bool
  | .append=>true
  | .extend=>true
  | .index=>true
  | _=>false
def mty (st : Store) (m : Mt) : D→Bool
  | .str _=>!m.ofList
  | d=>m.ofList && (seqAt st d).isSome
def setIxD (st : Store) : D→D→D→Option Store
  | .loc l,.int i,d=>(wlistAt st l).bind fun ds=>(ixN ds.length i).map fun j=>st.set l (.lst true (ds.set j d))
  | _,_,_=>none
inductive Out where
  | nx (τ : Sl)
  | rt (d : D)
  | bk (τ : Sl)
  | ct (τ : Sl)
structure R where
  ev : Sl→Store→E→Option (D × Store)
  tst : Sl→Store→E→Option (Bool × Store)
  ex : Sl→Store→List S→Option (Out × Store)
  call : Nat→List D→Store→Option (D × Store)
def evs (f : Store→E→Option (D × Store)) : List E→Store→Option (List D × Store)
  | [],st=>some ([],st)
  | e::es,st=>(f st e).bind fun p=>(evs f es p.2).bind fun q=>some (p.1::q.1,q.2)
def setIs : List Nat→List D→Sl→Option Sl
  | [],[],τ=>some τ
  | i::is,d::ds,τ=>if i < τ.length then setIs is ds (τ.set i (some d)) else none
  | _,_,_=>none
def setT : T→D→Sl→Option Sl
  | .var i,d,τ=>if i < τ.length then some (τ.set i (some d)) else none
  | .tup is,.tup ds,τ=>setIs is ds τ
  | _,_,_=>none
inductive Src where
  | tup (ds : List D)
  | lst (d : D)
  | rng (lo : Int) (n : Nat)
  | rgs (lo c : Int) (n : Nat)
  | zip (a b : D)
  | str (z : Str)
def rowAt (st : Store) : D→Option (List D)
  | .tup ds=>some ds
  | d=>seqAt st d
def pairAt (xs ys : List D) (i : Nat) : Option D:=match xs[i]?,ys[i]? with
  | some x,some y=>some (.tup [x,y])
  | _,_=>none
def Src.at (st : Store) (i : Nat) : Src→Option (Option D)
  | .tup ds=>some ds[i]?
  | .lst d=>(seqAt st d).map fun ds=>ds[i]?
  | .rng lo n=>some (if i < n then some (.int (lo + i)) else none)
  | .rgs lo c n=>some (if i < n then some (.int (lo + i * c)) else none)
  | .zip a b=>(rowAt st a).bind fun xs=>(rowAt st b).map fun ys=>pairAt xs ys i
  | .str z=>some ((z.cps.toList.map fun c=>D.str ⟨#[c]⟩)[i]?)
def Src.size (st : Store) : Src→Nat
  | .tup ds=>ds.length
  | .lst d=>((seqAt st d).getD []).length
  | .rng _ n=>n
  | .rgs _ _ n=>n
  | .str z=>z.cps.toList.length
  | .zip a b=>min ((rowAt st a).getD []).length ((rowAt st b).getD []).length
def big (i : Int) : Bool:=decide (i < -(2 ^ 62)) || decide (2 ^ 62 ≤ i)
def src (r : R) (τ : Sl) (st : Store) : E→Option (Src × Store)
  | .rng1 a=>(r.ev τ st a).bind fun p=>match p.1 with
    | .int n=>if big n then none else some (.rng 0 n.toNat,p.2)
    | _=>none
  | .rng2 a b=>(r.ev τ st a).bind fun p=>(r.ev τ p.2 b).bind fun q=>match p.1,q.1 with
    | .int i,.int j=>if big i || big j then none else some (.rng i (j - i).toNat,q.2)
    | _,_=>none
  | .rng3 a b c=>(r.ev τ st a).bind fun p=>(r.ev τ p.2 b).bind fun q=>(r.ev τ q.2 c).bind fun u=>match p.1,q.1,u.1 with
    | .int i,.int j,.int k=>if big i || big j || !(decide (0 < k) && decide (k < 1000)) then none else some (.rgs i k (if i < j then (j - i - 1) / k + 1 else 0).toNat,u.2)
    | _,_,_=>none
  | .zip a b=>(r.ev τ st a).bind fun p=>(r.ev τ p.2 b).bind fun q=>(rowAt q.2 p.1).bind fun _=>(rowAt q.2 q.1).map fun _=>(.zip p.1 q.1,q.2)
  | e=>(r.ev τ st e).bind fun p=>match p.1 with
    | .tup ds=>some (.tup ds,p.2)
    | .str z=>if z.cps.all (· < 128) then some (.str z,p.2) else none
    | d=>(seqAt p.2 d).map fun _=>(.lst d,p.2)
def loop (it : Src) (f : Sl→Store→D→Option (Out × Store)) : Nat→Nat→Sl→Store→Option (Out × Store)
  | 0,_,_,_=>none
  | k + 1,i,τ,st=>(it.at st i).bind fun o=>match o with
    | none=>some (.nx τ,st)
    | some d=>(f τ st d).bind fun p=>match p.1 with
      | .nx τ'=>loop it f k (i + 1) τ' p.2
      | .ct τ'=>loop it f k (i + 1) τ' p.2
      | .bk τ'=>some (.nx τ',p.2)
      | .rt v=>some (.rt v,p.2)
def turnC (r : R) (t : T) (test : Option E) (elt : E) (τ : Sl) (st : Store) (d : D) : Option (Option D × Sl × Store) :=
  (setT t d τ).bind fun τ'=>match test with
    | none=>(r.ev τ' st elt).map fun p=>(some p.1,τ',p.2)
    | some c=>(r.tst τ' st c).bind fun b=>if b.1 then (r.ev τ' b.2 elt).map fun p=>(some p.1,τ',p.2) else some (none,τ',b.2)
def loopC (it : Src) (f : Sl→Store→D→Option (Option D × Sl × Store)) : Nat→Nat→List D→Sl→Store→Option (List D × Store)
  | 0,_,_,_,_=>none
  | k + 1,i,acc,τ,st=>(it.at st i).bind fun o=>match o with
    | none=>if lim < acc.length then none else some (acc,st)
    | some d=>if lim ≤ acc.length then none else (f τ st d).bind fun p=>loopC it f k (i + 1) (match p.1 with | some x=>acc++[x] | none=>acc) p.2.1 p.2.2
def inner (src : List (Option Nat)) (τ : Sl) : Sl:=src.map fun o=>o.bind fun i=>(τ[i]?).bind id
def part (r : R) (τ : Sl) (st : Store) : Option E→Option (Option Int × Store)
  | none=>some (none,st)
  | some e=>(r.ev τ st e).bind fun p=>match p.1 with
    | .int i=>some (some i,p.2)
    | _=>none
def loopW (f : Sl→Store→Option (Bool × Store)) (g : Sl→Store→Option (Out × Store)) : Nat→Sl→Store→Option (Out × Store)
  | 0,_,_=>none
  | k + 1,τ,st=>(f τ st).bind fun b=>if b.1 then (g τ b.2).bind fun p=>match p.1 with
      | .nx τ'=>loopW f g k τ' p.2
      | .ct τ'=>loopW f g k τ' p.2
      | .bk τ'=>some (.nx τ',p.2)
      | .rt v=>some (.rt v,p.2)
    else some (.nx τ,b.2)
def dinR (r : R) (τ : Sl) (st : Store) (neg : Bool) (a b : E) : Option (D × Store) :=
  (r.ev τ st a).bind fun p=>(r.ev τ p.2 b).bind fun q=>match q.1 with
    | .loc l=>(dicAt q.2 l).bind fun kvs=>if isKey p.1 then some (.bl ((dget kvs p.1).isSome != neg),q.2) else none
    | _=>none
def ginR (r : R) (τ : Sl) (st : Store) (neg : Bool) (ks : List Str) (b : E) : Option (D × Store) :=
  (r.ev τ st b).bind fun p=>match p.1 with
    | .str z=>some (.bl (ks.contains z != neg),p.2)
    | _=>none
noncomputable def stepEv (r : R) (τ : Sl) (st : Store) : E→Option (D × Store)
  | .var i=>match τ[i]? with
    | some (some d)=>some (d,st)
    | _=>none
  | .lit d=>some (d,st)
  | .glo _ d=>some (d,st)
  | .bin op a b=>(r.ev τ st a).bind fun p=>(r.ev τ p.2 b).bind fun q=>binop q.2 op p.1 q.1
  | .neg a=>(r.ev τ st a).bind fun p=>match p.1 with
    | .int i=>some (.int (-i),p.2)
    | _=>none
  | .not a=>(r.ev τ st a).bind fun p=>match p.1 with
    | .bl b=>some (.bl (!b),p.2)
    | _=>none
  | .cmp op a b=>(r.ev τ st a).bind fun p=>(r.ev τ p.2 b).bind fun q=>(cmpD q.2 op p.1 q.1).map fun k=>(.bl k,q.2)
  | .cmp2 op op' a b c=>(r.ev τ st a).bind fun p=>(r.ev τ p.2 b).bind fun q=>(cmpD q.2 op p.1 q.1).bind fun k =>
      if k then (r.ev τ q.2 c).bind fun u=>(cmpD u.2 op' q.1 u.1).map fun k'=>(.bl k',u.2) else some (.bl false,q.2)
  | .and a b=>(r.ev τ st a).bind fun p=>match p.1 with
    | .bl true=>r.ev τ p.2 b
    | .bl false=>some (.bl false,p.2)
    | _=>none
  | .or a b=>(r.ev τ st a).bind fun p=>match p.1 with
    | .bl false=>r.ev τ p.2 b
    | .bl true=>some (.bl true,p.2)
    | _=>none
  | .ite c a b=>(r.tst τ st c).bind fun p=>if p.1 then r.ev τ p.2 a else r.ev τ p.2 b
  | .tup es=>(evs (r.ev τ) es st).bind fun p=>if lim < p.1.length then none else some (.tup p.1,p.2)
  | .lst es=>(evs (r.ev τ) es st).bind fun p=>if lim < p.1.length then none else some (alloc p.2 (.lst true p.1))
  | .idx a b=>(r.ev τ st a).bind fun p=>(r.ev τ p.2 b).bind fun q=>(idxD q.2 p.1 q.1).map fun d=>(d,q.2)
  | .sli a lo hi=>(r.ev τ st a).bind fun p=>(part r τ p.2 lo).bind fun l=>(part r τ l.2 hi).bind fun h=>sliD h.2 p.1 l.1 h.1
  | .call f es=>(evs (r.ev τ) es st).bind fun p=>r.call f p.1 p.2
  | .bcall f es=>(evs (r.ev τ) es st).bind fun p=>bfun p.2 f p.1
  | .isi a ts _=>(r.ev τ st a).bind fun p=>(tyName p.2 p.1).map fun n=>(.bl (ts.any fun t=>tyIs t n),p.2)
  | .meth a m es=>(r.ev τ st a).bind fun p=>if mty p.2 m p.1 then (evs (r.ev τ) es p.2).bind fun q=>mfun q.2 m p.1 q.1 else none
  | .gc a=>(r.ev τ st a).map fun p=>gcD st p
  | .rng1 _=>none
  | .rng2 _ _=>none
  | .rng3 _ _ _=>none
  | .zip _ _=>none
  | .dic es=>(evs (r.ev τ) es (st++[.dic []])).bind fun p=>match dicAt p.2 st.length with
    | some []=>(pairUp p.1).bind fun kvs=>if kvs.length ≤ 15 then some (.loc st.length,p.2.set st.length (.dic (dall kvs))) else none
    | _=>none
  | .didx a b=>(r.ev τ st a).bind fun p=>(r.ev τ p.2 b).bind fun q=>match p.1 with
    | .loc l=>(dicAt q.2 l).bind fun kvs=>if isKey q.1 then (dget kvs q.1).map fun d=>(d,q.2) else none
    | _=>none
  | .din neg a b=>dinR r τ st neg a b
  | .dgt a b=>(r.ev τ st a).bind fun p=>match p.1 with
    | .loc l=>(dicAt p.2 l).bind fun _=>(r.ev τ p.2 b).bind fun q=>(dicAt q.2 l).bind fun kvs=>if isKey q.1 then some ((dget kvs q.1).getD .non,q.2) else none
    | _=>none
  | .fmt a=>(r.ev τ st a).bind fun p=>(fmtD p.1).map fun d=>(d,p.2)
  | .fstr es=>(evs (r.ev τ) es st).bind fun p=>(catD p.1 Str.empty).map fun z=>(.str z,p.2)
  | .gidx _ ks ds b=>(r.ev τ st b).bind fun p=>match p.1 with
    | .str z=>((ks.zip ds).find? fun q=>q.1 == z).map fun q=>(q.2,p.2)
    | _=>none
  | .gin neg _ ks b=>ginR r τ st neg ks b
  | .comp t it test elt sr=>(src r τ st it).bind fun p =>
      (loopC p.1 (turnC r t test elt) (p.1.size p.2 + 1) 0 [] (inner sr τ) p.2).map fun q=>alloc q.2 (.lst true q.1)
noncomputable def stepTst (r : R) (τ : Sl) (st : Store) : E→Option (Bool × Store)
  | .not a=>(r.tst τ st a).map fun p=>(!p.1,p.2)
  | .and a b=>(r.tst τ st a).bind fun p=>if p.1 then r.tst τ p.2 b else some (false,p.2)
  | .or a b=>(r.tst τ st a).bind fun p=>if p.1 then some (true,p.2) else r.tst τ p.2 b
  | .ite _ _ _=>none
  | .din neg a b=>(dinR r τ st neg a b).bind fun p=>(truth p.2 p.1).map fun k=>(k,p.2)
  | .gin neg _ ks b=>(ginR r τ st neg ks b).bind fun p=>(truth p.2 p.1).map fun k=>(k,p.2)
  | .cmp op a b=>(r.ev τ st a).bind fun p=>(r.ev τ p.2 b).bind fun q=>(cmpD q.2 op p.1 q.1).map fun k=>(k,q.2)
  | .cmp2 op op' a b c=>(r.ev τ st a).bind fun p=>(r.ev τ p.2 b).bind fun q=>(cmpD q.2 op p.1 q.1).bind fun k =>
      if k then (r.ev τ q.2 c).bind fun u=>(cmpD u.2 op' q.1 u.1).map fun k'=>(k',u.2) else some (false,q.2)
  | e=>(r.ev τ st e).bind fun p=>(truth p.2 p.1).map fun k=>(k,p.2)
noncomputable def stepEx (r : R) (τ : Sl) (st : Store) : S→Option (Out × Store)
  | .set t e=>(r.ev τ st e).bind fun p=>(setT t p.1 τ).map fun τ'=>(.nx τ',p.2)
  | .setIx a i e=>(r.ev τ st e).bind fun p=>(r.ev τ p.2 a).bind fun q=>(r.ev τ q.2 i).bind fun u=>(setIxD u.2 q.1 u.1 p.1).map fun st'=>(.nx τ,st')
  | .dset a i e=>(r.ev τ st e).bind fun p=>(r.ev τ p.2 a).bind fun q=>(r.ev τ q.2 i).bind fun u=>match q.1 with
    | .loc l=>(dicAt u.2 l).bind fun kvs=>if isKey u.1 && decide (kvs.length < lim) then some (.nx τ,u.2.set l (.dic (dput kvs u.1 p.1))) else none
    | _=>none
  | .rais=>none
  | .expr e=>(r.ev τ st e).map fun p=>(.nx τ,p.2)
  | .ret e=>(r.ev τ st e).map fun p=>(.rt p.1,p.2)
  | .retN=>some (.rt .non,st)
  | .ite c a b=>(r.tst τ st c).bind fun p=>if p.1 then r.ex τ p.2 a else r.ex τ p.2 b
  | .forr t it body=>(src r τ st it).bind fun p =>
      loop p.1 (fun τ st d=>(setT t d τ).bind fun τ'=>r.ex τ' st body) (p.1.size p.2 + 1) 0 τ p.2
  | .whil c body=>loopW (fun τ st=>r.tst τ st c) (fun τ st=>r.ex τ st body) lim τ st
  | .aug i op e=>match τ[i]? with
    | some (some x)=>(r.ev τ st e).bind fun p=>(augD p.2 op x p.1).map fun z=>(.nx (τ.set i (some z)),p.2)
    | _=>none
  | .brk=>some (.bk τ,st)
  | .cnt=>some (.ct τ,st)
  | .pass=>some (.nx τ,st)
def exs (f : Sl→Store→S→Option (Out × Store)) : List S→Sl→Store→Option (Out × Store)
  | [],τ,st=>some (.nx τ,st)
  | s::ss,τ,st=>(f τ st s).bind fun p=>match p.1 with
    | .nx τ'=>exs f ss τ' p.2
    | o=>some (o,p.2)
def stepCall (fns : List Fn) (r : R) (f : Nat) (ds : List D) (st : Store) : Option (D × Store) :=
  match fns[f]? with
  | some F=>if ds.length = F.np then (r.ex (ds.map some++List.replicate (F.nl - ds.length) none) st F.body).bind fun p=>match p.1 with
      | .rt d=>some (d,p.2)
      | .nx _=>some (.non,p.2)
      | _=>none
    else none
  | none=>none
noncomputable def step (c : Nat→List D→Store→Option (D × Store)) (r : R) : R:=⟨stepEv r,stepTst r,fun τ st ss=>exs (stepEx r) ss τ st,c⟩
noncomputable def runK (c : Nat→List D→Store→Option (D × Store)) : Nat→R
  | 0=>⟨fun _ _ _=>none,fun _ _ _=>none,fun _ _ _=>none,c⟩
  | k + 1=>step c (runK c k)
open Classical in
noncomputable def lim1 {α : Type} (f : Nat→Option α) : Option α:=if h : ∃ x,∃ n,f n = some x then some h.choose else none
noncomputable def RL (c : Nat→List D→Store→Option (D × Store)) : R:=⟨fun τ st e=>lim1 fun n=>(runK c n).ev τ st e,fun τ st e=>lim1 fun n=>(runK c n).tst τ st e,fun τ st e=>lim1 fun n=>(runK c n).ex τ st e,c⟩
noncomputable def callD (fns : List Fn) : Nat→Nat→List D→Store→Option (D × Store)
  | 0=>fun _ _ _=>none
  | d + 1=>stepCall fns (RL (callD fns d))
noncomputable abbrev rn (fns : List Fn) (d n : Nat) : R:=runK (callD fns d) n
noncomputable abbrev Lv (fns : List Fn) (d : Nat) : R:=RL (callD fns d)
theorem lim1_is {α : Type} {f : Nat→Option α} {x : α} (h : lim1 f = some x) : ∃ n,f n = some x:=by
  unfold lim1 at h
  split at h
  · rename_i hx
    obtain ⟨n,hn⟩:=hx.choose_spec
    exact ⟨n,by rw [hn]; exact h⟩
  · cases h
theorem runK_call (c : Nat→List D→Store→Option (D × Store)) : ∀ n,(runK c n).call = c
  | 0=>rfl
  | _ + 1=>rfl
end M
end
section
set_option linter.all false
namespace M
open PySem (Str)
theorem exs_split : ∀ (a : List S) {b : List S} {f : Sl→Store→S→Option (Out × Store)} {τ τ' : Sl} {s s' : Store},exs f a τ s = some (.nx τ',s')→exs f (a++b) τ s = exs f b τ' s'
  | [],b,f,τ,τ',s,s',h=>by cases h; rfl
  | x::a,b,f,τ,τ',s,s',h=>by
    simp only [exs,List.cons_append] at h ⊢
    cases q : f τ s x with
    | none=>rw [q] at h; cases h
    | some p =>
      rw [q] at h
      simp only [Option.bind_some] at h ⊢
      cases hp : p.1 with
      | nx τ2=>rw [hp] at h; simp only at h ⊢; exact exs_split a h
      | rt d=>rw [hp] at h; cases h
      | bk d=>rw [hp] at h; cases h
      | ct d=>rw [hp] at h; cases h
theorem exs_cons {x : S} {b : List S} {f : Sl→Store→S→Option (Out × Store)} {τ τ' : Sl} {s s' : Store} (h : f τ s x = some (.nx τ',s')) : exs f (x::b) τ s = exs f b τ' s':=by
  simp only [exs,h,Option.bind_some]
theorem exs_ret {x : S} {b : List S} {f : Sl→Store→S→Option (Out × Store)} {τ : Sl} {s s' : Store} {d : D} (h : f τ s x = some (.rt d,s')) : exs f (x::b) τ s = some (.rt d,s'):=by
  simp only [exs,h,Option.bind_some]
theorem eqT_bb (a b : Bool) : eqT (.bl a) (.bl b) = (a == b):=by rw [eqT]
theorem eqT_ii (a b : Int) : eqT (.int a) (.int b) = (a == b):=by rw [eqT]
theorem eqT_ss (a b : Str) : eqT (.str a) (.str b) = (a == b):=by rw [eqT]
theorem eqT_nn : eqT .non .non = true:=by rw [eqT]
theorem flat_b (n : Nat) (a : Bool) : flat n (.bl a) = true:=by cases n <;> rfl
theorem flat_i (n : Nat) (a : Int) : flat n (.int a) = true:=by cases n <;> rfl
theorem flat_s (n : Nat) (a : Str) : flat n (.str a) = true:=by cases n <;> rfl
theorem flat_n (n : Nat) : flat n .non = true:=by cases n <;> rfl
theorem eqD_bb (st : Store) (a b : Bool) : eqD st (.bl a) (.bl b) = some (a == b):=by simp [eqD,seqAt,flat_b,eqT_bb]
theorem eqD_ii (st : Store) (a b : Int) : eqD st (.int a) (.int b) = some (a == b):=by simp [eqD,seqAt,flat_i,eqT_ii]
theorem eqD_ss (st : Store) (a b : Str) : eqD st (.str a) (.str b) = some (a == b):=by simp [eqD,seqAt,flat_s,eqT_ss]
theorem eqD_nn (st : Store) : eqD st .non .non = some true:=by simp [eqD,seqAt,flat_n,eqT_nn]
theorem loop_rng' {f : Sl→Store→D→Option (Out × Store)} {lo : Int} {n : Nat} (P : Nat→Sl→Store→Prop) (hs : ∀ i τ st,i < n→P i τ st→∃ τ' st',f τ st (.int (lo + i)) = some (.nx τ',st')∧P (i + 1) τ' st') :
    ∀ (k i : Nat) (τ : Sl) (st : Store),i + k = n→P i τ st→∃ τ' st',loop (.rng lo n) f (k + 1) i τ st = some (.nx τ',st')∧P n τ' st'
  | 0,i,τ,st,h,p=>by
    have : i = n:=by omega
    subst this
    exact ⟨τ,st,by simp [loop,Src.at],p⟩
  | k + 1,i,τ,st,h,p=>by
    have hi : i < n:=by omega
    obtain ⟨τ',st',e,q⟩:=hs i τ st hi p
    obtain ⟨τ2,st2,e2,q2⟩:=loop_rng' P hs k (i + 1) τ' st' (by omega) q
    refine ⟨τ2,st2,?_,q2⟩
    rw [loop]
    simp only [Src.at,hi,if_true,Option.bind_some,e]
    exact e2
theorem loop_rng {f : Sl→Store→D→Option (Out × Store)} {lo : Int} {n : Nat} {τ : Sl} {st : Store} (P : Nat→Sl→Store→Prop) (h0 : P 0 τ st) (hs : ∀ i τ st,i < n→P i τ st→∃ τ' st',f τ st (.int (lo + i)) = some (.nx τ',st')∧P (i + 1) τ' st') :
    ∃ τ' st',loop (.rng lo n) f (n + 1) 0 τ st = some (.nx τ',st')∧P n τ' st':=loop_rng' P hs n 0 τ st (by omega) h0
end M
end
section
set_option linter.all false
namespace M
open PySem (Str)
def Co {α : Type} (a : Option α) (b : Nat→Option α) : Prop:=∀ x,a = some x→∃ n,∀ m,n ≤ m→b m = some x
theorem Co.refl {α : Type} (a : Option α) : Co a fun _=>a:=fun _ h=>⟨0,fun _ _=>h⟩
theorem Co.none {α : Type} (b : Nat→Option α) : Co Option.none b:=fun _ h=>by cases h
theorem Co.bind {α β : Type} {f : Option α} {f' : Nat→Option α} {g : α→Option β} {g' : Nat→α→Option β} (hf : Co f f') (hg : ∀ a,Co (g a) fun m=>g' m a) : Co (f.bind g) fun m=>(f' m).bind (g' m):=fun x h=>by
  cases e : f with
  | none=>rw [e] at h; cases h
  | some a =>
    rw [e] at h
    obtain ⟨n,hn⟩:=hf a e
    obtain ⟨k,hk⟩:=hg a x h
    refine ⟨max n k,fun m hm=>?_⟩
    simp only
    rw [hn m (by omega)]
    exact hk m (by omega)
theorem Co.map {α β : Type} {f : Option α} {f' : Nat→Option α} (g : α→β) (hf : Co f f') : Co (f.map g) fun m=>(f' m).map g:=fun x h=>by
  cases e : f with
  | none=>rw [e] at h; cases h
  | some a =>
    rw [e] at h
    obtain ⟨n,hn⟩:=hf a e
    refine ⟨n,fun m hm=>?_⟩
    simp only
    rw [hn m hm]
    exact h
theorem Co.ite {α : Type} {c : Prop} [Decidable c] {a b : Option α} {a' b' : Nat→Option α} (ha : Co a a') (hb : Co b b') : Co (if c then a else b) fun m=>if c then a' m else b' m:=by
  by_cases h : c
  · simp only [if_pos h]; exact ha
  · simp only [if_neg h]; exact hb
structure Le (r : R) (r' : Nat→R) : Prop where
  ev : ∀ τ st e,Co (r.ev τ st e) fun m=>(r' m).ev τ st e
  tst : ∀ τ st e,Co (r.tst τ st e) fun m=>(r' m).tst τ st e
  ex : ∀ τ st e,Co (r.ex τ st e) fun m=>(r' m).ex τ st e
  call : ∀ f ds st,Co (r.call f ds st) fun m=>(r' m).call f ds st
theorem evs_mono {f : Store→E→Option (D × Store)} {f' : Nat→Store→E→Option (D × Store)} (h : ∀ st e,Co (f st e) fun m=>f' m st e) : ∀ (es : List E) (st : Store),Co (evs f es st) fun m=>evs (f' m) es st
  | [],st=>.refl _
  | e::es,st=>(h st e).bind fun p=>(evs_mono h es p.2).bind fun q=>.refl _
theorem loop_mono {it : Src} {f : Sl→Store→D→Option (Out × Store)} {f' : Nat→Sl→Store→D→Option (Out × Store)} (h : ∀ τ st d,Co (f τ st d) fun m=>f' m τ st d) : ∀ (k i : Nat) (τ : Sl) (st : Store),Co (loop it f k i τ st) fun m=>loop it (f' m) k i τ st
  | 0,_,_,_=>.refl _
  | k + 1,i,τ,st=>by
    unfold loop
    refine (Co.refl _).bind fun o=>?_
    cases o with
    | none=>exact .refl _
    | some d =>
      refine (h τ st d).bind fun p=>?_
      cases hp : p.1 with
      | nx τ'=>exact loop_mono h k _ _ _
      | ct τ'=>exact loop_mono h k _ _ _
      | bk τ'=>exact .refl _
      | rt v=>exact .refl _
theorem loopC_mono {it : Src} {f : Sl→Store→D→Option (Option D × Sl × Store)} {f' : Nat→Sl→Store→D→Option (Option D × Sl × Store)} (h : ∀ τ st d,Co (f τ st d) fun m=>f' m τ st d) : ∀ (k i : Nat) (acc : List D) (τ : Sl) (st : Store),Co (loopC it f k i acc τ st) fun m=>loopC it (f' m) k i acc τ st
  | 0,_,_,_,_=>.refl _
  | k + 1,i,acc,τ,st=>by
    unfold loopC
    refine (Co.refl _).bind fun o=>?_
    cases o with
    | none=>exact .refl _
    | some d=>exact Co.ite (.refl _) ((h τ st d).bind fun p=>loopC_mono h k _ _ _ _)
theorem loopW_mono {f : Sl→Store→Option (Bool × Store)} {f' : Nat→Sl→Store→Option (Bool × Store)} {g : Sl→Store→Option (Out × Store)} {g' : Nat→Sl→Store→Option (Out × Store)} (h : ∀ τ st,Co (f τ st) fun m=>f' m τ st) (h' : ∀ τ st,Co (g τ st) fun m=>g' m τ st) : ∀ (k : Nat) (τ : Sl) (st : Store),Co (loopW f g k τ st) fun m=>loopW (f' m) (g' m) k τ st
  | 0,_,_=>.refl _
  | k + 1,τ,st=>by
    unfold loopW
    refine (h τ st).bind fun b=>Co.ite ((h' τ _).bind fun p=>?_) (.refl _)
    cases hp : p.1 with
    | nx τ'=>exact loopW_mono h h' k _ _
    | ct τ'=>exact loopW_mono h h' k _ _
    | bk τ'=>exact .refl _
    | rt v=>exact .refl _
theorem exs_mono {f : Sl→Store→S→Option (Out × Store)} {f' : Nat→Sl→Store→S→Option (Out × Store)} (h : ∀ τ st s,Co (f τ st s) fun m=>f' m τ st s) : ∀ (ss : List S) (τ : Sl) (st : Store),Co (exs f ss τ st) fun m=>exs (f' m) ss τ st
  | [],_,_=>.refl _
  | s::ss,τ,st=>by
    unfold exs
    refine (h τ st s).bind fun p=>?_
    cases hp : p.1 with
    | nx τ'=>exact exs_mono h ss _ _
    | _=>exact .refl _
section
variable {r : R} {r' : Nat→R} (h : Le r r')
include h
theorem src_mono (τ : Sl) (st : Store) (e : E) : Co (src r τ st e) fun m=>src (r' m) τ st e:=by
  cases e with
  | rng1 a=>exact (h.ev τ st a).bind fun p=>.refl _
  | rng2 a b=>exact (h.ev τ st a).bind fun p=>(h.ev τ _ b).bind fun q=>.refl _
  | rng3 a b c=>exact (h.ev τ st a).bind fun p=>(h.ev τ _ b).bind fun q=>(h.ev τ _ c).bind fun u=>.refl _
  | zip a b=>exact (h.ev τ st a).bind fun p=>(h.ev τ _ b).bind fun q=>.refl _
  | _=>exact (h.ev τ st _).bind fun p=>.refl _
theorem part_mono (τ : Sl) (st : Store) (e : Option E) : Co (part r τ st e) fun m=>part (r' m) τ st e:=by
  cases e with
  | none=>exact .refl _
  | some e=>exact (h.ev τ st e).bind fun p=>.refl _
theorem turnC_mono (t : T) (test : Option E) (elt : E) (τ : Sl) (st : Store) (d : D) : Co (turnC r t test elt τ st d) fun m=>turnC (r' m) t test elt τ st d:=by
  unfold turnC
  refine (Co.refl _).bind fun τ'=>?_
  cases test with
  | none=>exact (h.ev _ _ _).map _
  | some c=>exact (h.tst _ _ _).bind fun b=>Co.ite ((h.ev _ _ _).map _) (.refl _)
theorem dinR_mono (τ : Sl) (st : Store) (neg : Bool) (a b : E) : Co (dinR r τ st neg a b) fun m=>dinR (r' m) τ st neg a b:=(h.ev τ st a).bind fun p=>(h.ev τ _ b).bind fun q=>.refl _
theorem ginR_mono (τ : Sl) (st : Store) (neg : Bool) (ks : List PySem.Str) (b : E) : Co (ginR r τ st neg ks b) fun m=>ginR (r' m) τ st neg ks b:=(h.ev τ st b).bind fun p=>.refl _
theorem stepEv_mono (τ : Sl) (st : Store) (e : E) : Co (stepEv r τ st e) fun m=>stepEv (r' m) τ st e:=by
  cases e with
  | var i=>exact .refl _
  | lit d=>exact .refl _
  | glo x d=>exact .refl _
  | bin op a b=>exact (h.ev τ st a).bind fun p=>(h.ev τ _ b).bind fun q=>.refl _
  | neg a=>exact (h.ev τ st a).bind fun p=>.refl _
  | not a=>exact (h.ev τ st a).bind fun p=>.refl _
  | cmp op a b=>exact (h.ev τ st a).bind fun p=>(h.ev τ _ b).bind fun q=>.refl _
  | cmp2 op op' a b c=>exact (h.ev τ st a).bind fun p=>(h.ev τ _ b).bind fun q=>(Co.refl _).bind fun k=>Co.ite ((h.ev τ _ c).bind fun u=>.refl _) (.refl _)
  | and a b =>
    refine (h.ev τ st a).bind fun p=>?_
    obtain ⟨d,s⟩:=p
    cases d with
    | bl k=>cases k with
      | true=>exact h.ev τ _ b
      | false=>exact .refl _
    | _=>exact .refl _
  | or a b =>
    refine (h.ev τ st a).bind fun p=>?_
    obtain ⟨d,s⟩:=p
    cases d with
    | bl k=>cases k with
      | false=>exact h.ev τ _ b
      | true=>exact .refl _
    | _=>exact .refl _
  | ite c a b=>exact (h.tst τ st c).bind fun p=>Co.ite (h.ev τ _ a) (h.ev τ _ b)
  | tup es=>exact (evs_mono (h.ev τ) es st).bind fun p=>.refl _
  | lst es=>exact (evs_mono (h.ev τ) es st).bind fun p=>.refl _
  | idx a b=>exact (h.ev τ st a).bind fun p=>(h.ev τ _ b).bind fun q=>.refl _
  | sli a lo hi=>exact (h.ev τ st a).bind fun p=>(part_mono h τ _ lo).bind fun l=>(part_mono h τ _ hi).bind fun u=>.refl _
  | call f es=>exact (evs_mono (h.ev τ) es st).bind fun p=>h.call f _ _
  | bcall f es=>exact (evs_mono (h.ev τ) es st).bind fun p=>.refl _
  | isi a ts m=>exact (h.ev τ st a).bind fun p=>.refl _
  | gc a=>exact (h.ev τ st a).map _
  | meth a m es=>exact (h.ev τ st a).bind fun p=>Co.ite ((evs_mono (h.ev τ) es _).bind fun q=>.refl _) (.refl _)
  | rng1 a=>exact .refl _
  | rng2 a b=>exact .refl _
  | rng3 a b c=>exact .refl _
  | zip a b=>exact .refl _
  | dic es=>exact (evs_mono (h.ev τ) es _).bind fun p=>.refl _
  | didx a b=>exact (h.ev τ st a).bind fun p=>(h.ev τ _ b).bind fun q=>.refl _
  | din neg a b=>exact dinR_mono h τ st neg a b
  | dgt a b =>
    refine (h.ev τ st a).bind fun p=>?_
    obtain ⟨d,s⟩:=p
    cases d with
    | loc l=>exact (Co.refl _).bind fun _=>(h.ev τ _ b).bind fun q=>.refl _
    | _=>exact .refl _
  | fmt a=>exact (h.ev τ st a).bind fun p=>.refl _
  | fstr es=>exact (evs_mono (h.ev τ) es st).bind fun p=>.refl _
  | gidx x ks ds b=>exact (h.ev τ st b).bind fun p=>.refl _
  | gin neg x ks b=>exact ginR_mono h τ st neg ks b
  | comp t it test elt sr=>exact (src_mono h τ st it).bind fun p=>(loopC_mono (turnC_mono h t test elt) _ _ _ _ _).map _
theorem stepTst_mono (τ : Sl) (st : Store) (e : E) : Co (stepTst r τ st e) fun m=>stepTst (r' m) τ st e:=by
  cases e with
  | not a=>exact (h.tst τ st a).map _
  | and a b=>exact (h.tst τ st a).bind fun p=>Co.ite (h.tst τ _ b) (.refl _)
  | or a b=>exact (h.tst τ st a).bind fun p=>Co.ite (.refl _) (h.tst τ _ b)
  | ite _ _ _=>exact .refl _
  | din neg a b=>exact (dinR_mono h τ st neg a b).bind fun p=>.refl _
  | gin neg x ks b=>exact (ginR_mono h τ st neg ks b).bind fun p=>.refl _
  | cmp op a b=>exact (h.ev τ st a).bind fun p=>(h.ev τ _ b).bind fun q=>.refl _
  | cmp2 op op' a b c=>exact (h.ev τ st a).bind fun p=>(h.ev τ _ b).bind fun q=>(Co.refl _).bind fun k=>Co.ite ((h.ev τ _ c).bind fun u=>.refl _) (.refl _)
  | _=>exact (h.ev τ st _).bind fun p=>.refl _
theorem stepEx_mono (τ : Sl) (st : Store) (s : S) : Co (stepEx r τ st s) fun m=>stepEx (r' m) τ st s:=by
  cases s with
  | set t e=>exact (h.ev τ st e).bind fun p=>.refl _
  | setIx a i e=>exact (h.ev τ st e).bind fun p=>(h.ev τ _ a).bind fun q=>(h.ev τ _ i).bind fun u=>.refl _
  | dset a i e=>exact (h.ev τ st e).bind fun p=>(h.ev τ _ a).bind fun q=>(h.ev τ _ i).bind fun u=>.refl _
  | rais=>exact .refl _
  | expr e=>exact (h.ev τ st e).map _
  | ret e=>exact (h.ev τ st e).map _
  | retN=>exact .refl _
  | ite c a b=>exact (h.tst τ st c).bind fun p=>Co.ite (h.ex τ _ a) (h.ex τ _ b)
  | forr t it body=>exact (src_mono h τ st it).bind fun p=>loop_mono (fun τ st d=>(Co.refl _).bind fun τ'=>h.ex τ' st body) _ _ _ _
  | whil c body=>exact loopW_mono (fun τ st=>h.tst τ st c) (fun τ st=>h.ex τ st body) _ _ _
  | aug i op e =>
    simp only [stepEx]
    cases h1 : τ[i]? with
    | none=>exact .none _
    | some o =>
      cases o with
      | none=>exact .none _
      | some x=>exact (h.ev τ st e).bind fun p=>.refl _
  | brk=>exact .refl _
  | cnt=>exact .refl _
  | pass=>exact .refl _
theorem step_mono (c : Nat→List D→Store→Option (D × Store)) : Le (step c r) fun m=>step c (r' m) :=
  ⟨stepEv_mono h,stepTst_mono h,fun τ st ss=>exs_mono (stepEx_mono h) ss τ st,fun f ds st=>.refl _⟩
end
theorem run_succ (c : Nat→List D→Store→Option (D × Store)) : ∀ n,Le (runK c n) fun _=>runK c (n + 1)
  | 0=>⟨fun _ _ _=>.none _,fun _ _ _=>.none _,fun _ _ _=>.none _,fun _ _ _=>.refl _⟩
  | n + 1=>step_mono (run_succ c n) c
section
variable {c : Nat→List D→Store→Option (D × Store)} {n N : Nat}
theorem ev_up {τ : Sl} {st : Store} {e : E} {x : D × Store} (h : (runK c n).ev τ st e = some x) (hN : n ≤ N) : (runK c N).ev τ st e = some x:=by
  induction hN with
  | refl=>exact h
  | step _ ih=>obtain ⟨k,hk⟩:=(run_succ c _).ev τ st e x ih; exact hk k (Nat.le_refl _)
theorem ex_up {τ : Sl} {st : Store} {e : List S} {x : Out × Store} (h : (runK c n).ex τ st e = some x) (hN : n ≤ N) : (runK c N).ex τ st e = some x:=by
  induction hN with
  | refl=>exact h
  | step _ ih=>obtain ⟨k,hk⟩:=(run_succ c _).ex τ st e x ih; exact hk k (Nat.le_refl _)
end
theorem lim1_of {α : Type} {f : Nat→Option α} {n : Nat} {x : α} (up : ∀ n N x,f n = some x→n ≤ N→f N = some x) (h : f n = some x) : lim1 f = some x:=by
  have hx : ∃ x,∃ n,f n = some x:=⟨x,n,h⟩
  unfold lim1
  rw [dif_pos hx]
  obtain ⟨k,hk⟩:=hx.choose_spec
  have e1:=up _ (max n k) _ h (by omega)
  have e2:=up _ (max n k) _ hk (by omega)
  rw [e1] at e2
  exact e2.symm
section
variable {fns : List Fn} {d : Nat} {τ : Sl} {st : Store}
theorem call_of {f : Nat} {F : Fn} {ds : List D} {st' : Store} {v : D} (n : Nat) (hf : fns[f]? = some F) (hl : ds.length = F.np) (hτ : ds.map some++List.replicate (F.nl - ds.length) none = τ)
    (h : exs (stepEx (rn fns d n)) F.body τ st = some (.rt v,st')) : callD fns (d + 1) f ds st = some (v,st'):=by
  show stepCall fns (RL (callD fns d)) f ds st = _
  unfold stepCall
  rw [hf]
  dsimp only
  have e : (RL (callD fns d)).ex τ st F.body = some (.rt v,st'):=lim1_of (n:=n + 1) (fun _ _ _ h k=>ex_up h k) h
  rw [if_pos hl,hτ,e]
  rfl
theorem ev_k {c : Nat→List D→Store→Option (D × Store)} {n : Nat} (e : E) : (runK c (n + 1)).ev τ st e = stepEv (runK c n) τ st e:=rfl
theorem tst_k {c : Nat→List D→Store→Option (D × Store)} {n : Nat} (e : E) : (runK c (n + 1)).tst τ st e = stepTst (runK c n) τ st e:=rfl
theorem ex_k {c : Nat→List D→Store→Option (D × Store)} {n : Nat} (e : List S) : (runK c (n + 1)).ex τ st e = exs (stepEx (runK c n)) e τ st:=rfl
theorem call_k {c : Nat→List D→Store→Option (D × Store)} {n : Nat} (f : Nat) (ds : List D) : (runK c (n + 1)).call f ds st = c f ds st:=rfl
end
end M
end
section
set_option linter.all false
namespace M
open PySem (Str)
section
variable {r : R} {s : Src} {S : Store} {rest : Sl} {elt : E} {ds : List D}
theorem loopC_map {es : List D} (hat : ∀ i,s.at S i = some ds[i]?) (hlen : es.length = ds.length) (hlim : ds.length < lim) (he : ∀ (i : Nat) (d e : D),ds[i]? = some d→es[i]? = some e→r.ev (some d::rest) S elt = some (e,S)) :
    ∀ (k i : Nat) (o : Option D),i + k = ds.length→loopC s (turnC r (.var 0) none elt) (k + 1) i (es.take i) (o::rest) S = some (es,S)
  | 0,i,o,h=>by
    have e : i = ds.length:=by omega
    subst e
    have h1 : es.take ds.length = es:=List.take_of_length_le (by omega)
    rw [loopC,hat,h1]
    simp only [Option.bind_some,List.getElem?_eq_none (Nat.le_refl _)]
    rw [if_neg (by omega)]
  | k + 1,i,o,h=>by
    have hi : i < ds.length:=by omega
    have h1 : ds[i]? = some ds[i]:=by simp
    have h2 : es[i]? = some (es[i]'(by omega)):=by simp
    have h3:=he i _ _ h1 h2
    rw [loopC,hat,h1]
    simp only [Option.bind_some]
    rw [if_neg (by rw [List.length_take]; omega)]
    have e1 : turnC r (.var 0) none elt (o::rest) S ds[i] = some (some (es[i]'(by omega)),some ds[i]::rest,S):=by
      unfold turnC
      simp only [setT,List.length_cons,Nat.zero_lt_succ,if_true,List.set_cons_zero,Option.bind_some,h3,Option.map_some]
    rw [e1]
    simp only [Option.bind_some]
    rw [show es.take i++[es[i]'(by omega)] = es.take (i + 1) by rw [List.take_succ_eq_append_getElem (by omega)]]
    exact loopC_map hat hlen hlim he k (i + 1) _ (by omega)
end
theorem comp_map {r : R} {τ : Sl} {S S' : Store} {it elt : E} {sr : List (Option Nat)} {s : Src} {rest : Sl} {ds es : List D} (hsrc : src r τ S it = some (s,S')) (hat : ∀ i,s.at S' i = some ds[i]?) (hsz : s.size S' = ds.length) (hin : inner sr τ = none::rest) (hlen : es.length = ds.length) (hlim : ds.length < lim)
    (he : ∀ (i : Nat) (d e : D),ds[i]? = some d→es[i]? = some e→r.ev (some d::rest) S' elt = some (e,S')) : stepEv r τ S (.comp (.var 0) it none elt sr) = some (.loc S'.length,S'++[.lst true es]):=by
  have h:=loopC_map (r:=r) (s:=s) (S:=S') (rest:=rest) (elt:=elt) hat hlen hlim he ds.length 0 none (by omega)
  show ((src r τ S it).bind fun p=>(loopC p.1 (turnC r (.var 0) none elt) (p.1.size p.2 + 1) 0 [] (inner sr τ) p.2).map fun q=>alloc q.2 (.lst true q.1)) = _
  rw [hsrc]
  simp only [Option.bind_some,hsz,hin]
  rw [show ([] : List D) = es.take 0 by simp,h]
  rfl
theorem at_rng {S : Store} (lo : Int) (n : Nat) (i : Nat) : (Src.rng lo n).at S i = some ((List.range n).map fun (j : Nat)=>D.int (lo + j))[i]?:=by
  simp only [Src.at,List.getElem?_map]
  by_cases h : i < n
  · rw [if_pos h,List.getElem?_range h]; rfl
  · rw [if_neg h,List.getElem?_eq_none (by simpa using h)]; rfl
theorem loop_src' {f : Sl→Store→D→Option (Out × Store)} {s : Src} {ds : List D} (P : Nat→Sl→Store→Prop) (Q : Sl→Store→Prop) (hat : ∀ i τ st,P i τ st→s.at st i = some ds[i]?)
    (hs : ∀ i τ st d,ds[i]? = some d→P i τ st→(∃ τ' st',(f τ st d = some (.nx τ',st')∨f τ st d = some (.ct τ',st'))∧P (i + 1) τ' st')∨∃ τ' st',f τ st d = some (.bk τ',st')∧Q τ' st') :
    ∀ (k i : Nat) (τ : Sl) (st : Store),i + k = ds.length→P i τ st→∃ τ' st',loop s f (k + 1) i τ st = some (.nx τ',st')∧(P ds.length τ' st'∨Q τ' st')
  | 0,i,τ,st,h,p=>by
    have e : i = ds.length:=by omega
    subst e
    refine ⟨τ,st,?_,.inl p⟩
    rw [loop,hat _ _ _ p]
    simp [List.getElem?_eq_none (Nat.le_refl _)]
  | k + 1,i,τ,st,h,p=>by
    have hi : i < ds.length:=by omega
    have h1 : ds[i]? = some ds[i]:=by simp
    rw [loop,hat _ _ _ p,h1]
    simp only [Option.bind_some]
    rcases hs i τ st _ h1 p with ⟨τ',st',e | e,q⟩ | ⟨τ',st',e,q⟩
    · rw [e]
      exact loop_src' P Q hat hs k (i + 1) τ' st' (by omega) q
    · rw [e]
      exact loop_src' P Q hat hs k (i + 1) τ' st' (by omega) q
    · rw [e]
      exact ⟨τ',st',rfl,.inr q⟩
theorem loop_src {f : Sl→Store→D→Option (Out × Store)} {s : Src} {ds : List D} {τ : Sl} {st : Store} (P : Nat→Sl→Store→Prop) (Q : Sl→Store→Prop) (h0 : P 0 τ st) (hsz : s.size st = ds.length) (hat : ∀ i τ st,P i τ st→s.at st i = some ds[i]?)
    (hs : ∀ i τ st d,ds[i]? = some d→P i τ st→(∃ τ' st',(f τ st d = some (.nx τ',st')∨f τ st d = some (.ct τ',st'))∧P (i + 1) τ' st')∨∃ τ' st',f τ st d = some (.bk τ',st')∧Q τ' st') :
    ∃ τ' st',loop s f (s.size st + 1) 0 τ st = some (.nx τ',st')∧(P ds.length τ' st'∨Q τ' st'):=by
  rw [hsz]
  exact loop_src' P Q hat hs ds.length 0 τ st (by omega) h0
end M
end
section
set_option linter.all false
set_option maxRecDepth 10000
set_option maxHeartbeats 4000000
namespace M
open PySem (Str)
section
variable {st r : Store} {d : D} {ds : List D}
theorem gc_app (h : noLoc d = true) : gcD st (d,st++r) = (d,st):=by
  unfold gcD
  rw [if_pos (by simp),if_pos h]
theorem gc_same (h : noLoc d = true) : gcD st (d,st) = (d,st):=by
  have:=gc_app (st:=st) (r:=[]) h
  rwa [List.append_nil] at this
theorem gc_int (i : Int) : gcD st (.int i,st) = (.int i,st):=gc_same rfl
theorem gc_bl (i : Bool) : gcD st (.bl i,st) = (.bl i,st):=gc_same rfl
theorem gc_str (i : Str) : gcD st (.str i,st) = (.str i,st):=gc_same rfl
theorem noLoc_tup : noLoc (.tup ds) = noLocs ds:=by rw [noLoc]
theorem noLoc_lst : noLoc (.lst ds) = noLocs ds:=by rw [noLoc]
theorem noLoc_str (i : Str) : noLoc (.str i) = true:=rfl
theorem noLocs_nil : noLocs [] = true:=rfl
theorem noLocs_cons : noLocs (d::ds) = (noLoc d && noLocs ds):=rfl
theorem noLocs_all : ∀ {ds : List D},noLocs ds = ds.all noLoc
  | []=>rfl
  | d::ds=>by rw [noLocs_cons,List.all_cons,noLocs_all]
theorem noLocs_of (h : ∀ d ∈ ds,noLoc d = true) : noLocs ds = true:=by rw [noLocs_all,List.all_eq_true]; exact h
theorem noLocs_map {α : Type} {xs : List α} {g : α→D} (h : ∀ x ∈ xs,noLoc (g x) = true) : noLocs (xs.map g) = true:=noLocs_of fun d hd=>by
  obtain ⟨x,hx,rfl⟩:=List.mem_map.mp hd
  exact h x hx
theorem gc_new (h : noLocs ds = true) : gcD st (.loc st.length,st++[.lst true ds]) = (.lst ds,st):=by
  unfold gcD
  rw [if_pos (by simp),if_neg (by simp [noLoc])]
  simp [h]
end
theorem stepEx_ite_t {r : R} {τ : Sl} {st st' : Store} {c : E} {a b : List S} (h : r.tst τ st c = some (true,st')) : stepEx r τ st (.ite c a b) = r.ex τ st' a:=by
  rw [stepEx,h]; rfl
theorem stepEx_ite_f {r : R} {τ : Sl} {st st' : Store} {c : E} {a b : List S} (h : r.tst τ st c = some (false,st')) : stepEx r τ st (.ite c a b) = r.ex τ st' b:=by
  rw [stepEx,h]; rfl
def cDraw : List S:=[
  .set (.var 4) (.lit (.int 0)),
  .set (.var 5) (.lit (.int 1)),
  .ite (.cmp .Gt (.bcall .len [(.var 0)]) (.lit (.int 0))) [.set (.var 4) (.idx (.var 0) (.bin .Mod (.var 1) (.bcall .len [(.var 0)]))),.set (.var 5) (.bin .FloorDiv (.var 1) (.bcall .len [(.var 0)]))] [],
  .set (.var 6) (.var 4),
  .forr (.var 7) (.rng1 (.var 2)) [.set (.var 6) (.bin .FloorDiv (.var 6) (.bin .Pow (.lit (.int 10)) (.lit (.int 10))))],
  .ite (.and (.cmp .Eq (.var 5) (.lit (.int 0))) (.and (.cmp .GtE (.var 4) (.bin .Pow (.lit (.int 10)) (.lit (.int 18)))) (.cmp .Gt (.var 6) (.lit (.int 0))))) [.ret (.bin .Mod (.bin .Mod (.var 6) (.bin .Pow (.lit (.int 10)) (.lit (.int 10)))) (.var 3))] [],
  .set (.var 8) (.bin .Mod (.bin .Add (.bin .Add (.bin .Add (.bin .Mult (.var 4) (.lit (.int 7919))) (.bin .Mult (.var 1) (.lit (.int 104729)))) (.bin .Mult (.var 2) (.lit (.int 1299709)))) (.lit (.int 31))) (.lit (.int 1000000007))),
  .set (.var 9) (.bin .Mod (.bin .Add (.bin .Mult (.var 8) (.lit (.int 48271))) (.bin .FloorDiv (.var 4) (.lit (.int 1009)))) (.lit (.int 998244353))),
  .set (.var 9) (.bin .Mod (.bin .Add (.bin .Mult (.var 9) (.bin .Add (.bin .Mod (.var 8) (.lit (.int 9973))) (.lit (.int 1)))) (.var 2)) (.lit (.int 1000000009))),
  .ret (.bin .Mod (.bin .Mod (.bin .Add (.bin .Add (.bin .Mult (.var 8) (.lit (.int 69621))) (.bin .Mult (.var 9) (.lit (.int 40692)))) (.bin .FloorDiv (.var 9) (.lit (.int 1013)))) (.lit (.int 2147483647))) (.var 3))]
def cDrawIf : S:=.ite (.and (.cmp .Eq (.var 5) (.lit (.int 0))) (.and (.cmp .GtE (.var 4) (.bin .Pow (.lit (.int 10)) (.lit (.int 18)))) (.cmp .Gt (.var 6) (.lit (.int 0))))) [.ret (.bin .Mod (.bin .Mod (.var 6) (.bin .Pow (.lit (.int 10)) (.lit (.int 10)))) (.var 3))] []
def fDraw : Fn:=⟨4,10,cDraw⟩
theorem mulOk_r {a b : Int} (h1 : -(2 ^ 64) < b) (h2 : b < 2 ^ 64) : mulOk a b = true:=by unfold mulOk; simp; omega
theorem mulOk_l {a b : Int} (h1 : -(2 ^ 64) < a) (h2 : a < 2 ^ 64) : mulOk a b = true:=by unfold mulOk; simp; omega
def drawC (ns : List Int) (k : Int) : Int × Int:=if ns = [] then (0,1) else (ns.getD (k % (ns.length : Int)).toNat 0,k / ns.length)
def iterD : Nat→Int→Int
  | 0,c=>c
  | n + 1,c=>iterD n c / 10000000000
def drawF (c k j many : Int) : Int:=(fun one=>(fun two=>(fun two'=>(one * 69621 + two' * 40692 + two' / 1013) % 2147483647 % many) ((two * (one % 9973 + 1) + j) % 1000000009)) ((one * 48271 + c / 1009) % 998244353)) ((c * 7919 + k * 104729 + j * 1299709 + 31) % 1000000007)
def drawV (ns : List Int) (k j many : Int) : Int :=
  if (drawC ns k).2 = 0∧1000000000000000000 ≤ (drawC ns k).1∧0 < iterD j.toNat (drawC ns k).1 then iterD j.toNat (drawC ns k).1 % 10000000000 % many else drawF (drawC ns k).1 k j many
theorem drawV_lo (ns : List Int) (k j : Int) {many : Int} (h : 0 < many) : 0 ≤ drawV ns k j many:=by
  unfold drawV
  split
  · exact Int.emod_nonneg _ (by omega)
  · exact Int.emod_nonneg _ (by omega)
theorem drawV_hi (ns : List Int) (k j : Int) {many : Int} (h : 0 < many) : drawV ns k j many < many:=by
  unfold drawV
  split
  · exact Int.emod_lt_of_pos _ h
  · exact Int.emod_lt_of_pos _ h
theorem draw_eq' {fns : List Fn} {f : Nat} (hf : fns[f]? = some fDraw) (q n : Nat) (st : Store) (ns : List Int) (k j many : Int) (hn : ns.length ≤ 63) (hj : 0 ≤ j) (hj2 : j < 100000) (hm : 0 < many) :
    callD fns (n + 1) f [.lst (ns.map D.int),.int k,.int j,.int many] st = some (.int (drawV ns k j many),st):=by
  generalize hC : drawC ns k = C
  obtain ⟨cell,turn⟩:=C
  have first : exs (stepEx (rn fns n (q + 30))) (cDraw.take 4) [some (.lst (ns.map D.int)),some (.int k),some (.int j),some (.int many),none,none,none,none,none,none] st =
      some (.nx [some (.lst (ns.map D.int)),some (.int k),some (.int j),some (.int many),some (.int cell),some (.int turn),some (.int cell),none,none,none],st):=by
    by_cases he : ns = []
    · subst he
      cases hC
      simp [cDraw,exs,stepEx,ev_k,stepEv,tst_k,stepTst,evs,bfun,bLen,seqAt,cmpD,setT,truth,ex_k]
    · have hp : 0 < ns.length:=List.length_pos_iff.mpr he
      have h1 : 0 ≤ k % (ns.length : Int):=Int.emod_nonneg _ (by omega)
      have h2 : k % (ns.length : Int) < ns.length:=Int.emod_lt_of_pos _ (by omega)
      have h5 : (k % (ns.length : Int)).toNat < ns.length:=by omega
      have e1 : drawC ns k = (ns[(k % (ns.length : Int)).toNat]'h5,k / ns.length):=by
        unfold drawC
        rw [if_neg he,List.getD_eq_getElem?_getD,List.getElem?_eq_getElem h5]
        rfl
      rw [hC] at e1
      cases e1
      have hz : 0 < (ns.length : Int):=by omega
      have l1 : ∀ S,bLen S [.lst (ns.map D.int)] = some (.int ns.length,S):=fun S=>by simp [bLen,seqAt]
      have o1 : ∀ S,binop S .Mod (.int k) (.int ns.length) = some (.int (k % ns.length),S):=fun S=>by simp only [binop]; rw [if_pos hz]
      have o2 : ∀ S,binop S .FloorDiv (.int k) (.int ns.length) = some (.int (k / ns.length),S):=fun S=>by simp only [binop]; rw [if_pos ⟨hz,by omega⟩]
      have o3 : ∀ S,idxD S (.lst (ns.map D.int)) (.int (k % ns.length)) = some (.int (ns[(k % (ns.length : Int)).toNat]'h5)):=fun S=>by
        simp [idxD,seqAt,atI,ixN,h1,h2,h5]
      have t1 : (rn fns n (q + 30)).tst [some (.lst (ns.map D.int)),some (.int k),some (.int j),some (.int many),some (.int 0),some (.int 1),none,none,none,none] st (.cmp .Gt (.bcall .len [(.var 0)]) (.lit (.int 0))) = some (true,st):=by
        simp only [tst_k,stepTst,ev_k,stepEv,evs,List.getElem?_cons_zero,Option.bind_some,bfun,l1,cmpD,Option.map_some,decide_eq_true hz]
      show exs (stepEx (rn fns n (q + 30))) [.set (.var 4) (.lit (.int 0)),.set (.var 5) (.lit (.int 1)),.ite (.cmp .Gt (.bcall .len [(.var 0)]) (.lit (.int 0))) [.set (.var 4) (.idx (.var 0) (.bin .Mod (.var 1) (.bcall .len [(.var 0)]))),.set (.var 5) (.bin .FloorDiv (.var 1) (.bcall .len [(.var 0)]))] [],.set (.var 6) (.var 4)] _ st = _
      rw [exs_cons (τ':=[some (.lst (ns.map D.int)),some (.int k),some (.int j),some (.int many),some (.int 0),none,none,none,none,none]) (s':=st) rfl]
      rw [exs_cons (τ':=[some (.lst (ns.map D.int)),some (.int k),some (.int j),some (.int many),some (.int 0),some (.int 1),none,none,none,none]) (s':=st) rfl]
      rw [exs_cons (τ':=[some (.lst (ns.map D.int)),some (.int k),some (.int j),some (.int many),some (.int (ns[(k % (ns.length : Int)).toNat]'h5)),some (.int (k / ns.length)),none,none,none,none]) (s':=st) (by
        rw [stepEx_ite_t t1,ex_k]
        rw [exs_cons (τ':=[some (.lst (ns.map D.int)),some (.int k),some (.int j),some (.int many),some (.int (ns[(k % (ns.length : Int)).toNat]'h5)),some (.int 1),none,none,none,none]) (s':=st) (by
          simp only [stepEx,ev_k,stepEv,evs,List.getElem?_cons_succ,List.getElem?_cons_zero,Option.bind_some,bfun,l1,o1,o3,Option.map_some]
          rfl)]
        rw [exs_cons (τ':=[some (.lst (ns.map D.int)),some (.int k),some (.int j),some (.int many),some (.int (ns[(k % (ns.length : Int)).toNat]'h5)),some (.int (k / ns.length)),none,none,none,none]) (s':=st) (by
          simp only [stepEx,ev_k,stepEv,evs,List.getElem?_cons_succ,List.getElem?_cons_zero,Option.bind_some,bfun,l1,o2,Option.map_some]
          rfl)]
        rfl)]
      rfl
  have second : ∃ (o : Option D),stepEx (rn fns n (q + 30)) [some (.lst (ns.map D.int)),some (.int k),some (.int j),some (.int many),some (.int cell),some (.int turn),some (.int cell),none,none,none] st
      (.forr (.var 7) (.rng1 (.var 2)) [.set (.var 6) (.bin .FloorDiv (.var 6) (.bin .Pow (.lit (.int 10)) (.lit (.int 10))))]) =
      some (.nx [some (.lst (ns.map D.int)),some (.int k),some (.int j),some (.int many),some (.int cell),some (.int turn),some (.int (iterD j.toNat cell)),o,none,none],st):=by
    have hb : big j = false:=by unfold big; simp; omega
    obtain ⟨τ',st',e,o,rfl,rfl⟩:=loop_rng (lo:=0) (n:=j.toNat) (τ:=[some (.lst (ns.map D.int)),some (.int k),some (.int j),some (.int many),some (.int cell),some (.int turn),some (.int cell),none,none,none]) (st:=st)
      (f:=fun τ st d=>(setT (.var 7) d τ).bind fun τ'=>(rn fns n (q + 30)).ex τ' st [.set (.var 6) (.bin .FloorDiv (.var 6) (.bin .Pow (.lit (.int 10)) (.lit (.int 10))))])
      (fun i τ s=>∃ (o : Option D),τ = [some (.lst (ns.map D.int)),some (.int k),some (.int j),some (.int many),some (.int cell),some (.int turn),some (.int (iterD i cell)),o,none,none]∧s = st) ⟨none,rfl,rfl⟩ (by
        rintro i τ s hi ⟨o,rfl,rfl⟩
        refine ⟨[some (.lst (ns.map D.int)),some (.int k),some (.int j),some (.int many),some (.int cell),some (.int turn),some (.int (iterD i cell / 10000000000)),some (.int (0 + i)),none,none],s,?_,_,rfl,rfl⟩
        simp [setT,ex_k,exs,stepEx,ev_k,stepEv,binop])
    refine ⟨o,?_⟩
    simp only [stepEx,src,ev_k,stepEv,Src.size]
    simp only [List.getElem?_cons_succ,List.getElem?_cons_zero,Option.bind_some,hb,Bool.false_eq_true,if_false]
    exact e
  obtain ⟨o,e2⟩:=second
  generalize hR : iterD j.toNat cell = rest at e2
  have body : exs (stepEx (rn fns n (q + 30))) cDraw [some (.lst (ns.map D.int)),some (.int k),some (.int j),some (.int many),none,none,none,none,none,none] st = some (.rt (.int (drawV ns k j many)),st):=by
    have hb : cDraw = cDraw.take 4++cDraw.drop 4:=by simp
    rw [hb,exs_split _ first]
    have e3 : cDraw.drop 4 = .forr (.var 7) (.rng1 (.var 2)) [.set (.var 6) (.bin .FloorDiv (.var 6) (.bin .Pow (.lit (.int 10)) (.lit (.int 10))))]::cDraw.drop 5:=rfl
    rw [e3,exs_cons e2]
    unfold drawV
    rw [hC]
    dsimp only
    rw [hR]
    by_cases hc : turn = 0∧1000000000000000000 ≤ cell∧0 < rest
    · rw [if_pos hc]
      obtain ⟨c1,c2,c3⟩:=hc
      subst c1
      simp [cDraw,exs,stepEx,ev_k,stepEv,tst_k,stepTst,cmpD,eqD_ii,truth,binop,ex_k,c2,c3,hm]
    · rw [if_neg hc]
      have e4 : stepEx (rn fns n (q + 30)) [some (.lst (ns.map D.int)),some (.int k),some (.int j),some (.int many),some (.int cell),some (.int turn),some (.int rest),o,none,none] st cDrawIf = some (.nx [some (.lst (ns.map D.int)),some (.int k),some (.int j),some (.int many),some (.int cell),some (.int turn),some (.int rest),o,none,none],st):=by
        by_cases c1 : turn = 0
        · by_cases c2 : 1000000000000000000 ≤ cell
          · have c3 : ¬ 0 < rest:=fun z=>hc ⟨c1,c2,z⟩
            subst c1
            simp [cDrawIf,exs,stepEx,ev_k,stepEv,tst_k,stepTst,cmpD,eqD_ii,truth,binop,ex_k,c2,c3,hm]
          · subst c1
            simp [cDrawIf,exs,stepEx,ev_k,stepEv,tst_k,stepTst,cmpD,eqD_ii,truth,binop,ex_k,c2,hm]
        · simp [cDrawIf,exs,stepEx,ev_k,stepEv,tst_k,stepTst,cmpD,eqD_ii,truth,binop,ex_k,c1,hm]
      have e5 : cDraw.drop 5 = cDrawIf::cDraw.drop 6:=rfl
      rw [e5,exs_cons e4]
      have m1 : ∀ x : Int,mulOk x 7919 = true:=fun x=>mulOk_r (by decide) (by decide)
      have m2 : ∀ x : Int,mulOk x 104729 = true:=fun x=>mulOk_r (by decide) (by decide)
      have m3 : ∀ x : Int,mulOk x 1299709 = true:=fun x=>mulOk_r (by decide) (by decide)
      have m4 : ∀ x : Int,mulOk x 48271 = true:=fun x=>mulOk_r (by decide) (by decide)
      have m5 : ∀ x y : Int,mulOk x (y % 9973 + 1) = true:=fun x y=>mulOk_r (by omega) (by omega)
      have m6 : ∀ x : Int,mulOk x 69621 = true:=fun x=>mulOk_r (by decide) (by decide)
      have m7 : ∀ x : Int,mulOk x 40692 = true:=fun x=>mulOk_r (by decide) (by decide)
      unfold drawF
      simp [cDraw,exs,stepEx,ev_k,stepEv,setT,binop,hm,m1,m2,m3,m4,m5,m6,m7]
  exact call_of (q + 30) hf rfl rfl body
theorem draw_eq {fns : List Fn} {f : Nat} (hf : fns[f]? = some fDraw) {N : Nat} (hN : 1 ≤ N) {st : Store} {ns : List Int} {k j many : Int} (hn : ns.length ≤ 63) (hj : 0 ≤ j) (hj2 : j < 100000) (hm : 0 < many) :
    callD fns N f [.lst (ns.map D.int),.int k,.int j,.int many] st = some (.int (drawV ns k j many),st):=by
  have:=draw_eq' hf 0 (N - 1) st ns k j many hn hj hj2 hm
  rwa [show N - 1 + 1 = N by omega] at this
end M
end
section
set_option linter.all false
set_option maxRecDepth 10000
set_option maxHeartbeats 4000000
namespace M
open PySem (Str)
abbrev CF:=Nat→List D→Store→Option (D × Store)
section
variable {c : CF} {n : Nat} {τ : Sl} {st : Store} {it elt : E} {sr : List (Option Nat)} {s : Src} {rest : Sl} {α : Type}
theorem gc_comp (xs : List α) (f g : α→D) (hsrc : src (runK c n) τ st it = some (s,st)) (hat : ∀ i,s.at st i = some (xs.map f)[i]?) (hsz : s.size st = xs.length) (hin : inner sr τ = none::rest) (hlim : xs.length < 1000000) (hg : ∀ x ∈ xs,noLoc (g x) = true)
    (he : ∀ x ∈ xs,(runK c n).ev (some (f x)::rest) st elt = some (g x,st)) : (runK c (n + 2)).ev τ st (.gc (.comp (.var 0) it none elt sr)) = some (.lst (xs.map g),st):=by
  have h:=comp_map (r:=runK c n) (τ:=τ) (S:=st) (S':=st) (it:=it) (elt:=elt) (sr:=sr) (s:=s) (rest:=rest) (ds:=xs.map f) (es:=xs.map g) hsrc hat (by rw [hsz,List.length_map]) hin (by rw [List.length_map,List.length_map]) (by rw [List.length_map]; unfold lim; omega) (fun i d e h1 h2=>by
    rw [List.getElem?_map] at h1 h2
    cases hx : xs[i]? with
    | none=>rw [hx] at h1; cases h1
    | some x =>
      rw [hx] at h1 h2
      cases h1
      cases h2
      exact he x (List.mem_of_getElem? hx))
  have e1 : (runK c (n + 1)).ev τ st (.comp (.var 0) it none elt sr) = some (.loc st.length,st++[.lst true (xs.map g)]):=h
  show ((runK c (n + 1)).ev τ st (.comp (.var 0) it none elt sr)).map (fun p=>gcD st p) = _
  rw [e1]
  show some (gcD st (.loc st.length,st++[.lst true (xs.map g)])) = _
  rw [gc_new (noLocs_map hg)]
theorem gc_ev {d : D} {e : E} (h : (runK c n).ev τ st e = some (d,st)) (hd : noLoc d = true) : (runK c (n + 1)).ev τ st (.gc e) = some (d,st):=by
  show ((runK c n).ev τ st e).map (fun p=>gcD st p) = _
  rw [h]
  show some (gcD st (d,st)) = _
  rw [gc_same hd]
theorem gc_evL {ds : List D} {e : E} (h : (runK c n).ev τ st e = some (.loc st.length,st++[.lst true ds])) (hd : noLocs ds = true) : (runK c (n + 1)).ev τ st (.gc e) = some (.lst ds,st):=by
  show ((runK c n).ev τ st e).map (fun p=>gcD st p) = _
  rw [h]
  show some (gcD st _) = _
  rw [gc_new hd]
theorem gc_lit {es : List E} {ds : List D} (h : evs ((runK c n).ev τ) es st = some (ds,st)) (hl : ds.length ≤ 1000) (hd : noLocs ds = true) : (runK c (n + 2)).ev τ st (.gc (.lst es)) = some (.lst ds,st):=by
  refine gc_evL ?_ hd
  show (evs ((runK c n).ev τ) es st).bind _ = _
  rw [h]
  simp only [Option.bind_some]
  rw [if_neg (by unfold lim; omega)]
  rfl
theorem gc_add {a b : E} {x y : D} {xs ys : List D} (ha : (runK c n).ev τ st a = some (x,st)) (hb : (runK c n).ev τ st b = some (y,st)) (hx : x = .lst xs) (hy : y = .lst ys) (hl : xs.length + ys.length ≤ 1000000) (hd : noLocs (xs++ys) = true) : (runK c (n + 2)).ev τ st (.gc (.bin .Add a b)) = some (.lst (xs++ys),st):=by
  subst hx hy
  refine gc_evL ?_ hd
  show ((runK c n).ev τ st a).bind _ = _
  rw [ha]
  simp only [Option.bind_some,hb,binop,seqAt]
  rw [if_neg (by unfold lim; omega)]
  rfl
theorem src_lst {i : Nat} {ds : List D} (h : τ[i]? = some (some (.lst ds))) : src (runK c (n + 1)) τ st (.var i) = some (.lst (.lst ds),st):=by
  simp only [src,ev_k,stepEv,h,Option.bind_some,seqAt,Option.map_some]
theorem src_tup {i : Nat} {ds : List D} (h : τ[i]? = some (some (.tup ds))) : src (runK c (n + 1)) τ st (.var i) = some (.tup ds,st):=by
  simp only [src,ev_k,stepEv,h,Option.bind_some]
end
theorem at_lst' {ds : List D} (S : Store) (i : Nat) : (Src.lst (.lst ds)).at S i = some ds[i]?:=rfl
theorem size_lst' {ds : List D} (S : Store) : (Src.lst (.lst ds)).size S = ds.length:=rfl
def cSame (f : Nat) : List S:=[
  .ite (.isi (.var 1) [.tup,.lst] true) [.ite (.or (.not (.isi (.var 0) [.tup,.lst] true)) (.cmp .NotEq (.bcall .len [(.var 0)]) (.bcall .len [(.var 1)]))) [.ret (.lit (.bl false))] [],.set (.var 2) (.bcall .all [(.gc (.comp (.var 0) (.rng1 (.bcall .len [(.var 1)])) none (.gc (.call f [(.idx (.var 1) (.var 0)),(.idx (.var 2) (.var 0))])) [none,some 0,some 1]))]),.ret (.and (.var 2) (.cmp .Eq (.isi (.var 0) [.tup] false) (.isi (.var 1) [.tup] false)))] [],
  .set (.var 2) (.cmp .Eq (.isi (.var 0) [.int] false) (.isi (.var 1) [.int] false)),
  .set (.var 2) (.and (.var 2) (.cmp .Eq (.isi (.var 0) [.bl] false) (.isi (.var 1) [.bl] false))),
  .ret (.and (.var 2) (.and (.cmp .Eq (.isi (.var 0) [.str] false) (.isi (.var 1) [.str] false)) (.cmp .Eq (.var 0) (.var 1))))]
def fSame (f : Nat) : Fn:=⟨2,3,cSame f⟩
inductive Dp : Nat→D→Prop
  | non {k} : Dp k .non
  | bl {k b} : Dp k (.bl b)
  | int {k i} : Dp k (.int i)
  | str {k s} : Dp k (.str s)
  | tup {k ds} (h : ∀ d ∈ ds,Dp k d) (hl : ds.length < 100000) : Dp (k + 1) (.tup ds)
  | lst {k ds} (h : ∀ d ∈ ds,Dp k d) (hl : ds.length < 100000) : Dp (k + 1) (.lst ds)
theorem Dp.noLoc {k : Nat} {d : D} (h : Dp k d) : noLoc d = true:=by
  induction h with
  | tup h hl ih=>rw [noLoc_tup]; exact noLocs_of ih
  | lst h hl ih=>rw [noLoc_lst]; exact noLocs_of ih
  | _=>rfl
section
variable {fns : List Fn} {f : Nat}
theorem same_scal (hf : fns[f]? = some (fSame f)) (q m : Nat) (st : Store) (d : D) (t : Ty) (ht : ∀ S,tyName S d = some t) (h1 : tyIs .tup t = false) (h2 : tyIs .lst t = false) (hi : Bool) (e1 : tyIs .int t = hi) (hb : Bool) (e2 : tyIs .bl t = hb) (hs : Bool) (e3 : tyIs .str t = hs) (he : ∀ S,eqD S d d = some true) : callD fns (m + 1) f [d,d] st = some (.bl true,st):=by
  refine call_of (q + 20) hf rfl rfl ?_
  show exs (stepEx (rn fns m (q + 20))) (cSame f) [some d,some d,none] st = _
  unfold cSame
  rw [exs_cons (τ':=[some d,some d,none]) (s':=st) (by
    refine (stepEx_ite_f (st':=st) ?_).trans rfl
    simp only [tst_k,stepTst,ev_k,stepEv,List.getElem?_cons_succ,List.getElem?_cons_zero,Option.bind_some,ht,Option.map_some,List.any_cons,List.any_nil,h1,h2,truth,Bool.or_self])]
  rw [exs_cons (τ':=[some d,some d,some (.bl true)]) (s':=st) (by
    simp only [stepEx,ev_k,stepEv,List.getElem?_cons_succ,List.getElem?_cons_zero,Option.bind_some,ht,Option.map_some,List.any_cons,List.any_nil,e1,cmpD,Bool.or_false,eqD_bb,beq_self_eq_true]
    rfl)]
  rw [exs_cons (τ':=[some d,some d,some (.bl true)]) (s':=st) (by
    simp only [stepEx,ev_k,stepEv,List.getElem?_cons_succ,List.getElem?_cons_zero,Option.bind_some,ht,Option.map_some,List.any_cons,List.any_nil,e2,cmpD,Bool.or_false,eqD_bb,beq_self_eq_true]
    rfl)]
  refine exs_ret ?_
  simp only [stepEx,ev_k,stepEv,List.getElem?_cons_succ,List.getElem?_cons_zero,Option.bind_some,ht,Option.map_some,List.any_cons,List.any_nil,e3,cmpD,Bool.or_false,eqD_bb,beq_self_eq_true,he]
theorem same_row (hf : fns[f]? = some (fSame f)) (q m : Nat) (st : Store) (d : D) (ds : List D) (k : Bool) (hd : (d = .tup ds∧k = true)∨(d = .lst ds∧k = false)) (hl : ds.length < 100000) (ih : ∀ x ∈ ds,callD fns m f [x,x] st = some (.bl true,st)) : callD fns (m + 1) f [d,d] st = some (.bl true,st):=by
  have ty : ∀ S,∃ t,tyName S d = some t∧(tyIs .tup t || tyIs .lst t) = true∧tyIs .tup t = k:=fun S=>by
    rcases hd with ⟨rfl,rfl⟩ | ⟨rfl,rfl⟩
    · exact ⟨.tup,rfl,rfl,rfl⟩
    · exact ⟨.lst,rfl,rfl,rfl⟩
  have ln : ∀ S,bLen S [d] = some (.int ds.length,S):=fun S=>by
    rcases hd with ⟨rfl,rfl⟩ | ⟨rfl,rfl⟩
    · rfl
    · rfl
  have ix : ∀ S (i : Nat) x,ds[i]? = some x→idxD S d (.int ((0 : Int) + i)) = some x:=fun S i x hx=>by
    have hi:=(List.getElem?_eq_some_iff.mp hx).1
    have h1 : (0 : Int) ≤ 0 + i:=by omega
    have h2 : (0 : Int) + i < ds.length:=by omega
    have h3 : ((0 : Int) + i).toNat = i:=by omega
    rcases hd with ⟨rfl,rfl⟩ | ⟨rfl,rfl⟩
    · simp only [idxD,atI,ixN,h1,h2,h3,if_true,Option.bind_some,hx]
    · simp only [idxD,seqAt,atI,ixN,h1,h2,h3,if_true,Option.bind_some,hx]
  obtain ⟨t,t1,t2,t3⟩:=ty st
  have hb : big (ds.length : Int) = false:=by unfold big; simp; omega
  have cm : ∀ n : Nat,(rn fns m (n + 10)).ev [some d,some d,none] st (.gc (.comp (.var 0) (.rng1 (.bcall .len [(.var 1)])) none (.gc (.call f [(.idx (.var 1) (.var 0)),(.idx (.var 2) (.var 0))])) [none,some 0,some 1])) = some (.lst ((List.range ds.length).map fun _=>.bl true),st):=fun n=>by
    refine gc_comp (n:=n + 8) (s:=.rng 0 ds.length) (rest:=[some d,some d]) (List.range ds.length) (fun (i : Nat)=>.int ((0 : Int) + i)) (fun _=>.bl true) ?_ (fun i=>at_rng 0 _ i) (by simp [Src.size]) rfl (by simpa using (by omega : ds.length < 1000000)) (fun _ _=>rfl) fun i hi=>?_
    · simp only [src,ev_k,stepEv,evs,List.getElem?_cons_succ,List.getElem?_cons_zero,Option.bind_some,bfun,ln,hb,Bool.false_eq_true,if_false]
      rfl
    · have hi : i < ds.length:=by simpa using hi
      have hx : ds[i]? = some ds[i]:=by simp
      refine gc_ev (n:=n + 7) ?_ rfl
      simp only [ev_k,stepEv,evs,List.getElem?_cons_succ,List.getElem?_cons_zero,Option.bind_some,ix _ i _ hx,Option.map_some,call_k]
      exact ih _ (List.getElem_mem hi)
  refine call_of (q + 20) hf rfl rfl ?_
  show exs (stepEx (rn fns m (q + 20))) (cSame f) [some d,some d,none] st = _
  unfold cSame
  refine exs_ret ?_
  refine (stepEx_ite_t (st':=st) ?_).trans ?_
  · simp only [tst_k,stepTst,ev_k,stepEv,List.getElem?_cons_succ,List.getElem?_cons_zero,Option.bind_some,t1,Option.map_some,List.any_cons,List.any_nil,Bool.or_false,t2,truth]
  rw [ex_k]
  rw [exs_cons (τ':=[some d,some d,none]) (s':=st) (by
    refine (stepEx_ite_f (st':=st) ?_).trans rfl
    simp only [tst_k,stepTst,ev_k,stepEv,evs,List.getElem?_cons_succ,List.getElem?_cons_zero,Option.bind_some,t1,Option.map_some,List.any_cons,List.any_nil,Bool.or_false,t2,truth,Bool.not_true,Bool.false_eq_true,if_false,bfun,ln,cmpD,neD,eqD_ii,beq_self_eq_true])]
  rw [exs_cons (τ':=[some d,some d,some (.bl true)]) (s':=st) (by
    have al : bAll st [.lst ((List.range ds.length).map fun _=>.bl true)] = some (.bl true,st):=by
      have : ∀ n : Nat,asBools ((List.range n).map fun _=>D.bl true) = some (List.replicate n true):=fun n=>by
        rw [List.map_const',List.length_range]
        induction n with
        | zero=>rfl
        | succ n ih=>rw [List.replicate_succ,List.replicate_succ,asBools,ih]; rfl
      simp only [bAll,seqAt,Option.bind_some,this,Option.map_some]
      simp
    simp only [stepEx]
    rw [ev_k]
    simp only [stepEv,evs,cm,Option.bind_some,bfun,al]
    rfl)]
  refine exs_ret ?_
  simp only [stepEx,ev_k,stepEv,List.getElem?_cons_succ,List.getElem?_cons_zero,Option.bind_some,t1,Option.map_some,List.any_cons,List.any_nil,cmpD,Bool.or_false,eqD_bb,beq_self_eq_true]
theorem same_eq (hf : fns[f]? = some (fSame f)) {k : Nat} {d : D} (h : Dp k d) : ∀ (m : Nat) (st : Store),k < m→callD fns m f [d,d] st = some (.bl true,st):=by
  induction h with
  | non=>intro m st hm; obtain ⟨m,rfl⟩ : ∃ j,m = j + 1:=⟨m - 1,by omega⟩; exact same_scal hf 0 m st .non .non (fun _=>rfl) rfl rfl _ rfl _ rfl _ rfl fun _=>eqD_nn _
  | @bl _ b=>intro m st hm; obtain ⟨m,rfl⟩ : ∃ j,m = j + 1:=⟨m - 1,by omega⟩; exact same_scal hf 0 m st (.bl b) .bl (fun _=>rfl) rfl rfl _ rfl _ rfl _ rfl fun _=>by rw [eqD_bb]; simp
  | @int _ b=>intro m st hm; obtain ⟨m,rfl⟩ : ∃ j,m = j + 1:=⟨m - 1,by omega⟩; exact same_scal hf 0 m st (.int b) .int (fun _=>rfl) rfl rfl _ rfl _ rfl _ rfl fun _=>by rw [eqD_ii]; simp
  | @str _ b=>intro m st hm; obtain ⟨m,rfl⟩ : ∃ j,m = j + 1:=⟨m - 1,by omega⟩; exact same_scal hf 0 m st (.str b) .str (fun _=>rfl) rfl rfl _ rfl _ rfl _ rfl fun _=>by rw [eqD_ss]; simp
  | @tup k ds h hl ih=>intro m st hm; obtain ⟨m,rfl⟩ : ∃ j,m = j + 1:=⟨m - 1,by omega⟩; exact same_row hf 0 m st _ ds true (.inl ⟨rfl,rfl⟩) hl fun x hx=>ih x hx m st (by omega)
  | @lst k ds h hl ih=>intro m st hm; obtain ⟨m,rfl⟩ : ∃ j,m = j + 1:=⟨m - 1,by omega⟩; exact same_row hf 0 m st _ ds false (.inr ⟨rfl,rfl⟩) hl fun x hx=>ih x hx m st (by omega)
end
end M
end
section
set_option linter.all false
set_option maxRecDepth 10000
set_option maxHeartbeats 4000000
namespace M
open PySem (Str)
def mk (cs : List Nat) : Str:=⟨cs.toArray⟩
def sgn (c : Nat) : D:=.str ⟨#[c]⟩
theorem mk_cps (cs : List Nat) : (mk cs).cps.toList = cs:=rfl
theorem mk_len (cs : List Nat) : (mk cs).length = cs.length:=by simp [mk,Str.length]
theorem mk_app (a b : List Nat) : mk a++mk b = mk (a++b):=by
  show (⟨a.toArray++b.toArray⟩ : Str) = ⟨(a++b).toArray⟩
  simp
theorem mk_inj {a b : List Nat} (h : mk a = mk b) : a = b:=by
  have:=congrArg (fun z : Str=>z.cps.toList) h
  exact this
theorem mk_beq (a b : List Nat) : (mk a == mk b) = (a == b):=by
  rw [Bool.eq_iff_iff,beq_iff_eq,beq_iff_eq]
  exact ⟨mk_inj,fun h=>by rw [h]⟩
theorem mk_ascii {cs : List Nat} (h : ∀ c ∈ cs,c < 128) : (mk cs).cps.all (· < 128) = true:=by
  simp only [mk]
  rw [← Array.all_toList]
  simpa using h
theorem oneOf_sgn (c : Nat) : oneOf ⟨#[c]⟩ = some c:=rfl
theorem asStrs_map : ∀ zs : List Str,asStrs (zs.map D.str) = some zs
  | []=>rfl
  | z::r=>by
    show (asStrs (r.map D.str)).map (z::·) = _
    rw [asStrs_map r]
    rfl
theorem at_str (z : Str) (S : Store) (i : Nat) : (Src.str z).at S i = some ((z.cps.toList.map sgn)[i]?):=rfl
theorem at0 {α : Type} (a : α) (r : List α) : atI (a::r) 0 = some a:=by simp [atI,ixN]
def natD (n : Nat) : List Nat:=(Nat.toDigits 10 n).map Char.toNat
theorem str_nat {i : Int} (h : 0 ≤ i) : Str.ofString (toString i) = mk (natD i.toNat):=by
  obtain ⟨m,rfl⟩:=Int.eq_ofNat_of_zero_le h
  have e:=PySem.W.KIN.signs_num m
  have : ∀ a b : Str,a.cps.toList = b.cps.toList→a = b:=fun a b q=>by
    obtain ⟨x⟩:=a
    obtain ⟨y⟩:=b
    have : x = y:=Array.toList_inj.mp q
    rw [this]
  exact this _ _ e
theorem natD_step {n : Nat} (h : 10 ≤ n) : natD n = natD (n / 10)++[n % 10 + 48]:=by
  have hm : n % 10 < 10:=Nat.mod_lt n (by decide)
  have t : Nat.toDigits 10 (n / 10)++Nat.toDigits 10 (n % 10) = Nat.toDigits 10 (10 * (n / 10) + n % 10):=Nat.toDigits_append_toDigits (by decide) (by omega) hm
  rw [Nat.div_add_mod] at t
  unfold natD
  rw [← t,List.map_append,Nat.toDigits_of_lt_base hm]
  congr 1
  have : ∀ d : Nat,d < 10→(Nat.digitChar d).toNat = d + 48:=by decide
  simp [this _ hm]
theorem natD_small {n : Nat} (h : n < 10) : natD n = [n + 48]:=by
  unfold natD
  rw [Nat.toDigits_of_lt_base h]
  have : ∀ d : Nat,d < 10→(Nat.digitChar d).toNat = d + 48:=by decide
  simp [this _ h]
theorem natD_fig (n : Nat) : (natD n).all isFig = true:=by
  induction n using Nat.strongRecOn with
  | _ n ih =>
    by_cases h : n < 10
    · rw [natD_small h]
      simp [isFig]
      omega
    · rw [natD_step (by omega),List.all_append,ih (n / 10) (by omega)]
      have : n % 10 < 10:=Nat.mod_lt n (by decide)
      simp [isFig]
      omega
theorem natD_val (n : Nat) : figVal (natD n) = n:=PySem.W.KIN.val_back n
theorem natD_ne (n : Nat) : natD n ≠ []:=by
  by_cases h : n < 10
  · rw [natD_small h]; simp
  · rw [natD_step (by omega)]; simp
theorem natD_head : ∀ {n : Nat},0 < n→(natD n).head? ≠ some 48:=by
  intro n
  induction n using Nat.strongRecOn with
  | _ n ih =>
    intro h0
    by_cases h : n < 10
    · rw [natD_small h]
      simp
      omega
    · rw [natD_step (by omega)]
      have:=ih (n / 10) (by omega) (by omega)
      cases hd : natD (n / 10) with
      | nil=>exact absurd hd (natD_ne _)
      | cons a r =>
        rw [hd] at this
        simpa using this
theorem natD_lt (n : Nat) : ∀ c ∈ natD n,c < 128:=fun c hc=>by
  have:=List.all_eq_true.mp (natD_fig n) c hc
  unfold isFig at this
  simp only [Bool.and_eq_true,decide_eq_true_eq] at this
  omega
def cFig : List S:=[
  .ret (.and (.cmp .NotEq (.var 0) (.lit (.str (PySem.Str.ofString "")))) (.bcall .all [(.gc (.comp (.var 0) (.var 0) none (.cmp .In (.var 0) (.glo (PySem.Str.ofString "FIGURES") (.str (PySem.Str.ofString "0123456789")))) [none]))]))]
def fFig : Fn:=⟨1,1,cFig⟩
def cNum (g : Nat) : List S:=[
  .ite (.not (.gc (.call g [(.var 0)]))) [.ret (.lit .non)] [],
  .ite (.and (.cmp .Eq (.idx (.var 0) (.lit (.int 0))) (.lit (.str (PySem.Str.ofString "0")))) (.cmp .NotEq (.var 0) (.lit (.str (PySem.Str.ofString "0"))))) [.ret (.lit .non)] [],
  .ret (.bcall .int [(.var 0)])]
def fNum (g : Nat) : Fn:=⟨1,1,cNum g⟩
theorem t0 : PySem.Str.ofString "0" = mk [48]:=by decide +kernel
theorem te : PySem.Str.ofString "" = mk []:=by decide +kernel
def digs : List Nat:=[48,49,50,51,52,53,54,55,56,57]
theorem td : PySem.Str.ofString "0123456789" = mk digs:=by decide +kernel
theorem fig_in (c : Nat) : decide (c ∈ digs) = isFig c:=by
  unfold isFig
  rw [Bool.eq_iff_iff]
  simp only [digs,List.mem_cons,List.not_mem_nil,or_false,decide_eq_true_eq,Bool.and_eq_true]
  omega
def numV (cs : List Nat) : D:=if cs ≠ []∧cs.all isFig = true∧¬ (cs.head? = some 48∧cs ≠ [48]) then .int (figVal cs : Nat) else .non
theorem figs_ok {fns : List Fn} {g : Nat} (hg : fns[g]? = some fFig) (q m : Nat) (st : Store) (cs : List Nat) (ha : ∀ c ∈ cs,c < 128) (hl : cs.length < 1000) : callD fns (m + 1) g [.str (mk cs)] st = some (.bl (!cs.isEmpty && cs.all isFig),st):=by
  refine call_of (q + 20) (F:=fFig) hg rfl rfl ?_
  show exs (stepEx (rn fns m (q + 20))) cFig [some (.str (mk cs))] st = _
  unfold cFig
  refine exs_ret ?_
  have e1 : ∀ n : Nat,(rn fns m (n + 6)).ev [some (.str (mk cs))] st (.gc (.comp (.var 0) (.var 0) none (.cmp .In (.var 0) (.glo (PySem.Str.ofString "FIGURES") (.str (PySem.Str.ofString "0123456789")))) [none])) = some (.lst (cs.map fun c=>D.bl (isFig c)),st):=fun n=>by
    refine gc_comp (n:=n + 4) (s:=.str (mk cs)) (rest:=[]) cs sgn (fun c=>D.bl (isFig c)) ?_ (fun i=>at_str _ _ i) (by simp [Src.size,mk_cps]) rfl (by omega) (fun _ _=>rfl) fun c hc=>?_
    · simp only [src,ev_k,stepEv,List.getElem?_cons_zero,Option.bind_some,mk_ascii ha,if_true]
    · simp only [ev_k,stepEv,List.getElem?_cons_zero,Option.bind_some,cmpD,inD,sgn,oneOf_sgn,Option.map_some,td]
      show some (D.bl (decide (c ∈ digs)),st) = _
      rw [fig_in]
  have hb : ∀ l : List Nat,asBools (l.map fun c=>D.bl (isFig c)) = some (l.map isFig):=fun l=>by
    induction l with
    | nil=>rfl
    | cons a r ih=>simp [asBools,ih]
  have al : ∀ S,bAll S [.lst (cs.map fun c=>D.bl (isFig c))] = some (.bl (cs.all isFig),S):=fun S=>by
    simp only [bAll,seqAt,Option.bind_some,hb,Option.map_some,List.all_map]
    rfl
  have hne : (mk cs == mk []) = cs.isEmpty:=by
    rw [mk_beq]
    cases cs <;> rfl
  cases he : cs.isEmpty with
  | true =>
    simp only [stepEx,ev_k,stepEv,List.getElem?_cons_zero,Option.bind_some,te,cmpD,neD,eqD_ss,hne,he,Option.map_some,Bool.not_true,Bool.false_and]
  | false =>
    simp only [stepEx]
    rw [ev_k]
    have e3 : ∀ n : Nat,(rn fns m (n + 3)).ev [some (.str (mk cs))] st (.cmp .NotEq (.var 0) (.lit (.str (PySem.Str.ofString "")))) = some (.bl true,st):=fun n=>by
      simp only [ev_k,stepEv,List.getElem?_cons_zero,Option.bind_some,te,cmpD,neD,eqD_ss,hne,he,Option.map_some,Bool.not_false]
    simp only [stepEv,e3,Option.bind_some]
    rw [ev_k]
    simp only [stepEv,evs,e1,Option.bind_some,bfun,al,Option.map_some,Bool.not_false,Bool.true_and]
theorem number_ok {fns : List Fn} {g f : Nat} (hg : fns[g]? = some fFig) (hf : fns[f]? = some (fNum g)) (q m : Nat) (st : Store) (cs : List Nat) (ha : ∀ c ∈ cs,c < 128) (hl : cs.length < 600) : callD fns (m + 2) f [.str (mk cs)] st = some (numV cs,st):=by
  have e0:=figs_ok hg 0 m st cs ha (by omega)
  refine call_of (q + 20) (F:=fNum g) hf rfl rfl ?_
  show exs (stepEx (rn fns (m + 1) (q + 20))) (cNum g) [some (.str (mk cs))] st = _
  have t1 : ∀ n : Nat,(rn fns (m + 1) (n + 8)).tst [some (.str (mk cs))] st (.not (.gc (.call g [(.var 0)]))) = some (!(!cs.isEmpty && cs.all isFig),st):=fun n=>by
    simp only [tst_k,stepTst,ev_k,stepEv,evs,List.getElem?_cons_zero,Option.bind_some,call_k,e0,Option.map_some,gc_bl,truth]
  unfold cNum numV
  by_cases h1 : cs ≠ []∧cs.all isFig = true
  · have hb : (!(!cs.isEmpty && cs.all isFig)) = false:=by
      rw [h1.2,Bool.and_true]
      simpa using h1.1
    rw [exs_cons (τ':=[some (.str (mk cs))]) (s':=st) (by refine (stepEx_ite_f (st':=st) ?_).trans rfl; rw [t1,hb])]
    cases cs with
    | nil=>exact absurd rfl h1.1
    | cons c cr =>
      have hli : ¬ lim < (mk (c::cr)).length:=by rw [mk_len]; unfold lim; omega
      have hix : ∀ S,idxD S (.str (mk (c::cr))) (.int 0) = some (.str (mk [c])):=fun S=>by
        simp only [idxD,hli,if_false,mk_cps,at0]
        rfl
      have hm : (mk [c] == mk [48]) = (c == 48):=by rw [mk_beq]; simp [Bool.eq_iff_iff]
      have t2 : ∀ n : Nat,(rn fns (m + 1) (n + 8)).tst [some (.str (mk (c::cr)))] st (.and (.cmp .Eq (.idx (.var 0) (.lit (.int 0))) (.lit (.str (PySem.Str.ofString "0")))) (.cmp .NotEq (.var 0) (.lit (.str (PySem.Str.ofString "0"))))) = some ((c == 48) && !((c::cr) == [48]),st):=fun n=>by
        simp only [tst_k,stepTst,ev_k,stepEv,List.getElem?_cons_zero,Option.bind_some,hix,Option.map_some,cmpD,neD,eqD_ss,t0,hm,mk_beq]
        cases (c == 48) <;> rfl
      by_cases h2 : (c::cr).head? = some 48∧(c::cr) ≠ [48]
      · rw [if_neg (by rintro ⟨_,_,h⟩; exact h h2)]
        have hc : c = 48:=by simpa using h2.1
        have h3 : ((c == 48) && !((c::cr) == [48])) = true:=by
          rw [Bool.and_eq_true]
          exact ⟨by simpa using hc,by rw [Bool.not_eq_true',beq_eq_false_iff_ne]; exact h2.2⟩
        refine exs_ret ((stepEx_ite_t (st':=st) (by rw [t2,h3])).trans ?_)
        rw [ex_k]
        exact exs_ret rfl
      · rw [if_pos ⟨h1.1,h1.2,h2⟩]
        have hint : ∀ S,bInt S [.str (mk (c::cr))] = some (.int (figVal (c::cr) : Nat),S):=fun S=>by
          simp only [bInt,mk_cps,mk_len]
          rw [if_pos]
          rw [h1.2]
          simpa using (show cr.length + 1 ≤ 640 by simp at hl; omega)
        have h3 : ((c == 48) && !((c::cr) == [48])) = false:=by
          cases hx : ((c == 48) && !((c::cr) == [48])) with
          | false=>rfl
          | true =>
            rw [Bool.and_eq_true] at hx
            exact absurd ⟨by simpa using hx.1,by have:=hx.2; rw [Bool.not_eq_true',beq_eq_false_iff_ne] at this; exact this⟩ h2
        rw [exs_cons (τ':=[some (.str (mk (c::cr)))]) (s':=st) (by refine (stepEx_ite_f (st':=st) ?_).trans rfl; rw [t2,h3])]
        refine exs_ret ?_
        simp only [stepEx,ev_k,stepEv,evs,List.getElem?_cons_zero,Option.bind_some,bfun,hint,Option.map_some]
  · rw [if_neg (fun h=>h1 ⟨h.1,h.2.1⟩)]
    have hb : (!(!cs.isEmpty && cs.all isFig)) = true:=by
      by_cases q : cs = []
      · subst q; rfl
      · have : ¬ cs.all isFig = true:=fun z=>h1 ⟨q,z⟩
        simp only [Bool.not_eq_true] at this
        rw [this,Bool.and_false]
        rfl
    refine exs_ret ((stepEx_ite_t (st':=st) (by rw [t1,hb])).trans ?_)
    rw [ex_k]
    exact exs_ret rfl
theorem numV_nat (n : Nat) : numV (natD n) = .int n:=by
  unfold numV
  rw [if_pos,natD_val]
  refine ⟨natD_ne n,natD_fig n,fun h=>?_⟩
  by_cases h0 : n = 0
  · subst h0
    exact h.2 (natD_small (by decide))
  · exact natD_head (by omega) h.1
def joinC (c : Nat) : List (List Nat)→List Nat
  | []=>[]
  | [p]=>p
  | p::q::r=>p++c::joinC c (q::r)
theorem join_mk (c : Nat) : ∀ ps : List (List Nat),Str.join (mk [c]) (ps.map mk) = mk (joinC c ps)
  | []=>rfl
  | [p]=>rfl
  | p::q::r=>by
    have ih:=join_mk c (q::r)
    show mk p++mk [c]++Str.join (mk [c]) ((q::r).map mk) = _
    rw [ih,mk_app,mk_app]
    show mk (p++[c]++joinC c (q::r)) = mk (p++c::joinC c (q::r))
    simp
theorem joinC_cons (c x : Nat) (p : List Nat) (r : List (List Nat)) : joinC c ((x::p)::r) = x::joinC c (p::r):=by
  cases r <;> rfl
theorem splitC_join (c : Nat) : ∀ (p : List Nat) (r : List (List Nat)),c ∉ p→(∀ q ∈ r,c ∉ q)→splitC c (joinC c (p::r)) = p::r
  | [],[],_,_=>rfl
  | [],q::r,_,h=>by
    have ih:=splitC_join c q r (h q List.mem_cons_self) fun z hz=>h z (List.mem_cons_of_mem _ hz)
    show splitC c (c::joinC c (q::r)) = _
    unfold splitC
    rw [if_pos rfl,ih]
  | x::p,r,hp,h=>by
    have ih:=splitC_join c p r (fun z=>hp (List.mem_cons_of_mem _ z)) h
    rw [joinC_cons]
    unfold splitC
    rw [if_neg (fun z=>hp (by rw [z]; exact List.mem_cons_self)),ih]
theorem joinC_len (c B : Nat) : ∀ ps : List (List Nat),(∀ p ∈ ps,p.length ≤ B)→(joinC c ps).length ≤ ps.length * (B + 1)
  | [],_=>by simp [joinC]
  | [p],h=>by have:=h p List.mem_cons_self; simp [joinC]; omega
  | p::q::r,h=>by
    have ih:=joinC_len c B (q::r) fun z hz=>h z (List.mem_cons_of_mem _ hz)
    have:=h p List.mem_cons_self
    show (p++c::joinC c (q::r)).length ≤ _
    simp only [List.length_append,List.length_cons] at ih ⊢
    have e : (r.length + 1 + 1) * (B + 1) = (r.length + 1) * (B + 1) + (B + 1):=Nat.succ_mul _ _
    omega
theorem natD_len : ∀ (k n : Nat),n < 10 ^ (k + 1)→(natD n).length ≤ k + 1
  | 0,n,h=>by rw [natD_small (by simpa using h)]; simp
  | k + 1,n,h=>by
    by_cases h1 : n < 10
    · rw [natD_small h1]; simp
    · have : n / 10 < 10 ^ (k + 1):=by
        rw [Nat.div_lt_iff_lt_mul (by decide)]
        rw [Nat.pow_succ] at h
        exact h
      have ih:=natD_len k (n / 10) this
      rw [natD_step (by omega),List.length_append,List.length_singleton]
      omega
def Sm (i : Int) : Prop:=0 ≤ i∧i < 10 ^ 45
theorem Sm.log {i : Int} (h : Sm i) : i.natAbs.log2 < 1920:=by
  obtain ⟨h0,h1⟩:=h
  have h2 : i.natAbs < 10 ^ 45:=by omega
  by_cases hz : i.natAbs = 0
  · rw [hz]; decide
  · exact (Nat.log2_lt hz).mpr (Nat.lt_of_lt_of_le h2 (Nat.le_trans (show 10 ^ 45 ≤ 2 ^ 150 by decide) (Nat.pow_le_pow_right (by decide) (by decide))))
theorem Sm.len {i : Int} (h : Sm i) : (natD i.toNat).length ≤ 45:=natD_len 44 i.toNat (by have:=h.1; have:=h.2; omega)
theorem Sm.str {i : Int} (h : Sm i) (S : Store) : bStr S [.int i] = some (.str (mk (natD i.toNat)),S):=by
  simp only [bStr]
  rw [if_pos h.log,str_nat h.1]
theorem fig_ne {c n : Nat} (hc : isFig c = false) : c ∉ natD n:=fun h=>by
  have:=List.all_eq_true.mp (natD_fig n) c h
  rw [hc] at this
  cases this
theorem join_list {S : Store} {d : D} {c : Nat} {ps : List (List Nat)} (hl : seqAt S d = some (ps.map fun p=>D.str (mk p))) (hb : ∀ p ∈ ps,p.length ≤ 1000) (hn : ps.length ≤ 1000) : mJoin S (.str (mk [c])) [d] = some (.str (mk (joinC c ps)),S):=by
  have e1 : asStrs (ps.map fun p=>D.str (mk p)) = some (ps.map mk):=by
    have:=asStrs_map (ps.map mk)
    rw [List.map_map] at this
    exact this
  simp only [mJoin,hl,e1,Option.bind_some,join_mk]
  rw [if_pos]
  have hs : ∀ qs : List (List Nat),(∀ p ∈ qs,p.length ≤ 1000)→(List.map (fun x : Str=>x.length) (qs.map mk)).sum ≤ qs.length * 1000:=fun qs=>by
    induction qs with
    | nil=>simp
    | cons q r ih =>
      intro h
      have h1:=h q List.mem_cons_self
      have h2:=ih fun z hz=>h z (List.mem_cons_of_mem _ hz)
      simp only [List.map_cons,List.sum_cons,List.length_cons,mk_len]
      have : (r.length + 1) * 1000 = r.length * 1000 + 1000:=Nat.succ_mul _ _
      omega
  have:=hs ps hb
  rw [List.length_map,mk_len,List.length_singleton]
  unfold lim
  have : ps.length * 1000 ≤ 1000 * 1000:=Nat.mul_le_mul_right _ hn
  omega
theorem split_list {S : Store} {c : Nat} {p : List Nat} {r : List (List Nat)} (hp : c ∉ p) (hr : ∀ q ∈ r,c ∉ q) (hl : (joinC c (p::r)).length < 1000000) : mSplit S (.str (mk (joinC c (p::r)))) [.str (mk [c])] = some (.loc S.length,S++[.lst true ((p::r).map fun q=>D.str (mk q))]):=by
  show (if (mk (joinC c (p::r))).length < 1000000 then some (alloc S (.lst true ((splitC c (joinC c (p::r))).map fun p=>D.str ⟨p.toArray⟩))) else none) = _
  rw [mk_len,if_pos hl,splitC_join c p r hp hr]
  rfl
end M
end
section
set_option linter.all false
set_option maxRecDepth 10000
set_option maxHeartbeats 4000000
namespace K33
open M
open PySem (Str)
def b_all_figures : List M.S:=[
  .ret (.and (.cmp .NotEq (.var 0) (.lit (.str (PySem.Str.ofString "")))) (.bcall .all [(.gc (.comp (.var 0) (.var 0) none (.cmp .In (.var 0) (.glo (PySem.Str.ofString "FIGURES") (.str (PySem.Str.ofString "0123456789")))) [none]))]))]
def f_all_figures : M.Fn:=⟨1,1,b_all_figures⟩
def b_number : List M.S:=[
  .ite (.not (.gc (.call 0 [(.var 0)]))) [.ret (.lit .non)] [],
  .ite (.and (.cmp .Eq (.idx (.var 0) (.lit (.int 0))) (.lit (.str (PySem.Str.ofString "0")))) (.cmp .NotEq (.var 0) (.lit (.str (PySem.Str.ofString "0"))))) [.ret (.lit .non)] [],
  .ret (.bcall .int [(.var 0)])]
def f_number : M.Fn:=⟨1,1,b_number⟩
def b_read_numbers : List M.S:=[
  .set (.var 1) (.gc (.comp (.var 0) (.var 0) none (.gc (.call 1 [(.var 0)])) [none])),
  .ite (.cmp .In (.lit .non) (.var 1)) [.rais] [],
  .ret (.var 1)]
def f_read_numbers : M.Fn:=⟨1,2,b_read_numbers⟩
def b_shown_others : List M.S:=[
  .set (.var 1) (.lst [(.lit (.str (PySem.Str.ofString "others")))]),
  .forr (.var 2) (.var 0) [.expr (.meth (.var 1) .extend [(.gc (.comp (.var 0) (.var 2) none (.bcall .str [(.var 0)]) [none]))])],
  .ret (.var 1)]
def f_shown_others : M.Fn:=⟨1,3,b_shown_others⟩
def b_shown_paper : List M.S:=[
  .ite (.cmp .Eq (.idx (.var 0) (.lit (.int 0))) (.lit (.str (PySem.Str.ofString "open")))) [.ret (.meth (.lit (.str (PySem.Str.ofString " "))) .join [(.gc (.bin .Add (.gc (.lst [(.lit (.str (PySem.Str.ofString "open")))])) (.gc (.call 3 [(.idx (.var 0) (.lit (.int 1)))]))))])] [],
  .set (.var 1) (.gc (.comp (.var 0) (.idx (.var 0) (.lit (.int 2))) none (.bcall .str [(.var 0)]) [none])),
  .set (.var 2) (.gc (.comp (.var 0) (.idx (.var 0) (.lit (.int 3))) none (.bcall .str [(.var 0)]) [none])),
  .ret (.meth (.lit (.str (PySem.Str.ofString " "))) .join [(.gc (.bin .Add (.gc (.bin .Add (.gc (.bin .Add (.gc (.bin .Add (.gc (.lst [(.lit (.str (PySem.Str.ofString "held"))),(.bcall .str [(.idx (.var 0) (.lit (.int 1)))])])) (.var 1))) (.gc (.lst [(.lit (.str (PySem.Str.ofString "years")))])))) (.var 2))) (.gc (.call 3 [(.idx (.var 0) (.lit (.int 4)))]))))])]
def f_shown_paper : M.Fn:=⟨1,3,b_shown_paper⟩
def b_parted_at : List M.S:=[
  .ite (.cmp .NotIn (.var 1) (.var 0)) [.rais] [],
  .set (.var 2) (.meth (.var 0) .index [(.var 1)]),
  .ret (.tup [(.gc (.sli (.var 0) none (some (.var 2)))),(.gc (.sli (.var 0) (some (.bin .Add (.var 2) (.lit (.int 1)))) none))])]
def f_parted_at : M.Fn:=⟨2,3,b_parted_at⟩
def b_read_other : List M.S:=[
  .ite (.cmp .NotIn (.idx (.var 0) (.lit (.int 1))) (.glo (PySem.Str.ofString "WORDS") (.tup [(.str (PySem.Str.ofString "given")),(.str (PySem.Str.ofString "fallen")),(.str (PySem.Str.ofString "unvested")),(.str (PySem.Str.ofString "ground")),(.str (PySem.Str.ofString "younger"))]))) [.rais] [],
  .set (.var 1) (.gc (.call 2 [(.gc (.lst [(.idx (.var 0) (.lit (.int 0))),(.idx (.var 0) (.lit (.int 2)))]))])),
  .ret (.tup [(.idx (.var 1) (.lit (.int 0))),(.idx (.var 0) (.lit (.int 1))),(.idx (.var 1) (.lit (.int 1)))])]
def f_read_other : M.Fn:=⟨1,2,b_read_other⟩
def b_read_others : List M.S:=[
  .ite (.cmp .NotEq (.bin .Mod (.bcall .len [(.var 0)]) (.glo (PySem.Str.ofString "THINGS") (.int 3))) (.lit (.int 0))) [.rais] [],
  .ret (.bcall .tuple [(.gc (.comp (.var 0) (.rng3 (.lit (.int 0)) (.bcall .len [(.var 0)]) (.glo (PySem.Str.ofString "THINGS") (.int 3))) none (.gc (.call 6 [(.gc (.sli (.var 1) (some (.var 0)) (some (.bin .Add (.var 0) (.glo (PySem.Str.ofString "THINGS") (.int 3))))))])) [none,some 0]))])]
def f_read_others : M.Fn:=⟨1,1,b_read_others⟩
def b_read_way : List M.S:=[
  .ite (.cmp .Eq (.var 0) (.gc (.lst [(.lit (.str (PySem.Str.ofString "ground")))]))) [.ret (.tup [(.lit (.str (PySem.Str.ofString "ground")))])] [],
  .ite (.or (.cmp .NotEq (.gc (.sli (.var 0) none (some (.lit (.int 1))))) (.gc (.lst [(.lit (.str (PySem.Str.ofString "dip")))]))) (.cmp .NotEq (.bcall .len [(.var 0)]) (.lit (.int 3)))) [.rais] [],
  .ret (.bin .Add (.tup [(.lit (.str (PySem.Str.ofString "dip")))]) (.bcall .tuple [(.gc (.call 2 [(.gc (.sli (.var 0) (some (.lit (.int 1))) none))]))]))]
def f_read_way : M.Fn:=⟨1,1,b_read_way⟩
def b_read_held : List M.S:=[
  .set (.var 2) (.gc (.call 5 [(.var 0),(.lit (.str (PySem.Str.ofString "years")))])),
  .set (.var 3) (.idx (.var 2) (.lit (.int 0))),
  .ite (.or (.cmp .NotEq (.gc (.sli (.var 3) none (some (.lit (.int 1))))) (.gc (.lst [(.lit (.str (PySem.Str.ofString "held")))]))) (.cmp .Lt (.bcall .len [(.var 3)]) (.lit (.int 2)))) [.rais] [],
  .set (.var 4) (.idx (.gc (.call 2 [(.gc (.sli (.var 3) (some (.lit (.int 1))) (some (.lit (.int 2)))))])) (.lit (.int 0))),
  .ret (.tup [(.lit (.str (PySem.Str.ofString "held"))),(.var 4),(.gc (.call 8 [(.gc (.sli (.var 3) (some (.lit (.int 2))) none))])),(.bcall .tuple [(.gc (.call 2 [(.idx (.var 2) (.lit (.int 1)))]))]),(.var 1)])]
def f_read_held : M.Fn:=⟨2,5,b_read_held⟩
def b_read_paper : List M.S:=[
  .set (.var 1) (.gc (.call 5 [(.gc (.meth (.var 0) .split [(.lit (.str (PySem.Str.ofString " ")))])),(.lit (.str (PySem.Str.ofString "others")))])),
  .set (.var 2) (.gc (.call 7 [(.idx (.var 1) (.lit (.int 1)))])),
  .ite (.cmp .Eq (.idx (.var 1) (.lit (.int 0))) (.gc (.lst [(.lit (.str (PySem.Str.ofString "open")))]))) [.ret (.tup [(.lit (.str (PySem.Str.ofString "open"))),(.var 2)])] [],
  .ret (.call 9 [(.idx (.var 1) (.lit (.int 0))),(.var 2)])]
def f_read_paper : M.Fn:=⟨1,3,b_read_paper⟩
def b_law_draw : List M.S:=[
  .set (.var 4) (.lit (.int 0)),
  .set (.var 5) (.lit (.int 1)),
  .ite (.cmp .Gt (.bcall .len [(.var 0)]) (.lit (.int 0))) [.set (.var 4) (.idx (.var 0) (.bin .Mod (.var 1) (.bcall .len [(.var 0)]))),.set (.var 5) (.bin .FloorDiv (.var 1) (.bcall .len [(.var 0)]))] [],
  .set (.var 6) (.var 4),
  .forr (.var 7) (.rng1 (.var 2)) [.set (.var 6) (.bin .FloorDiv (.var 6) (.bin .Pow (.lit (.int 10)) (.lit (.int 10))))],
  .ite (.and (.cmp .Eq (.var 5) (.lit (.int 0))) (.and (.cmp .GtE (.var 4) (.bin .Pow (.lit (.int 10)) (.lit (.int 18)))) (.cmp .Gt (.var 6) (.lit (.int 0))))) [.ret (.bin .Mod (.bin .Mod (.var 6) (.bin .Pow (.lit (.int 10)) (.lit (.int 10)))) (.var 3))] [],
  .set (.var 8) (.bin .Mod (.bin .Add (.bin .Add (.bin .Add (.bin .Mult (.var 4) (.lit (.int 7919))) (.bin .Mult (.var 1) (.lit (.int 104729)))) (.bin .Mult (.var 2) (.lit (.int 1299709)))) (.lit (.int 31))) (.lit (.int 1000000007))),
  .set (.var 9) (.bin .Mod (.bin .Add (.bin .Mult (.var 8) (.lit (.int 48271))) (.bin .FloorDiv (.var 4) (.lit (.int 1009)))) (.lit (.int 998244353))),
  .set (.var 9) (.bin .Mod (.bin .Add (.bin .Mult (.var 9) (.bin .Add (.bin .Mod (.var 8) (.lit (.int 9973))) (.lit (.int 1)))) (.var 2)) (.lit (.int 1000000009))),
  .ret (.bin .Mod (.bin .Mod (.bin .Add (.bin .Add (.bin .Mult (.var 8) (.lit (.int 69621))) (.bin .Mult (.var 9) (.lit (.int 40692)))) (.bin .FloorDiv (.var 9) (.lit (.int 1013)))) (.lit (.int 2147483647))) (.var 3))]
def f_law_draw : M.Fn:=⟨4,10,b_law_draw⟩
def b_law_same : List M.S:=[
  .ite (.isi (.var 1) [.tup,.lst] true) [.ite (.or (.not (.isi (.var 0) [.tup,.lst] true)) (.cmp .NotEq (.bcall .len [(.var 0)]) (.bcall .len [(.var 1)]))) [.ret (.lit (.bl false))] [],.set (.var 2) (.bcall .all [(.gc (.comp (.var 0) (.rng1 (.bcall .len [(.var 1)])) none (.gc (.call 12 [(.idx (.var 1) (.var 0)),(.idx (.var 2) (.var 0))])) [none,some 0,some 1]))]),.ret (.and (.var 2) (.cmp .Eq (.isi (.var 0) [.tup] false) (.isi (.var 1) [.tup] false)))] [],
  .set (.var 2) (.cmp .Eq (.isi (.var 0) [.int] false) (.isi (.var 1) [.int] false)),
  .set (.var 2) (.and (.var 2) (.cmp .Eq (.isi (.var 0) [.bl] false) (.isi (.var 1) [.bl] false))),
  .ret (.and (.var 2) (.and (.cmp .Eq (.isi (.var 0) [.str] false) (.isi (.var 1) [.str] false)) (.cmp .Eq (.var 0) (.var 1))))]
def f_law_same : M.Fn:=⟨2,3,b_law_same⟩
def b_law_great : List M.S:=[
  .set (.var 3) (.idx (.gc (.lst [(.lit (.int 2)),(.lit (.int 10)),(.lit (.int 1000)),(.bin .Pow (.lit (.int 10)) (.lit (.int 10)))])) (.gc (.call 11 [(.var 0),(.var 1),(.var 2),(.lit (.int 4))]))),
  .set (.var 4) (.gc (.call 11 [(.var 0),(.var 1),(.bin .Add (.var 2) (.lit (.int 1))),(.var 3)])),
  .ite (.cmp .Eq (.gc (.call 11 [(.var 0),(.var 1),(.bin .Add (.var 2) (.lit (.int 2))),(.lit (.int 6))])) (.lit (.int 0))) [.ret (.bin .Add (.bin .Mult (.var 4) (.bin .Pow (.lit (.int 10)) (.lit (.int 30)))) (.gc (.call 11 [(.var 0),(.var 1),(.bin .Add (.var 2) (.lit (.int 3))),(.bin .Pow (.lit (.int 10)) (.lit (.int 10)))])))] [],
  .ret (.var 4)]
def f_law_great : M.Fn:=⟨3,5,b_law_great⟩
def b_law_flat_paper : List M.S:=[
  .set (.var 1) (.lst [(.idx (.var 0) (.lit (.int 0)))]),
  .ite (.cmp .Eq (.idx (.var 0) (.lit (.int 0))) (.lit (.str (PySem.Str.ofString "held")))) [.set (.var 1) (.bin .Add (.gc (.bin .Add (.var 1) (.gc (.lst [(.bcall .str [(.idx (.var 0) (.lit (.int 1)))])])))) (.gc (.comp (.var 0) (.idx (.var 0) (.lit (.int 2))) none (.bcall .str [(.var 0)]) [none]))),.set (.var 1) (.bin .Add (.gc (.bin .Add (.var 1) (.gc (.lst [(.lit (.str (PySem.Str.ofString "years")))])))) (.gc (.comp (.var 0) (.idx (.var 0) (.lit (.int 3))) none (.bcall .str [(.var 0)]) [none])))] [],
  .expr (.meth (.var 1) .append [(.lit (.str (PySem.Str.ofString "others")))]),
  .forr (.tup [2,3,4]) (.idx (.var 0) (.neg (.lit (.int 1)))) [.set (.var 1) (.bin .Add (.var 1) (.gc (.lst [(.bcall .str [(.var 2)]),(.var 3),(.bcall .str [(.var 4)])])))],
  .ret (.meth (.lit (.str (PySem.Str.ofString " "))) .join [(.var 1)])]
def f_law_flat_paper : M.Fn:=⟨1,5,b_law_flat_paper⟩
def b_law_loose_paper : List M.S:=[
  .set (.var 2) (.lst []),
  .forr (.var 3) (.rng1 (.gc (.call 11 [(.var 0),(.var 1),(.lit (.int 0)),(.lit (.int 6))]))) [.set (.var 4) (.idx (.gc (.lst [(.lit (.str (PySem.Str.ofString "given"))),(.lit (.str (PySem.Str.ofString "fallen"))),(.lit (.str (PySem.Str.ofString "unvested"))),(.lit (.str (PySem.Str.ofString "ground"))),(.lit (.str (PySem.Str.ofString "younger")))])) (.gc (.call 11 [(.var 0),(.bin .Add (.var 1) (.var 3)),(.lit (.int 1)),(.lit (.int 5))]))),.expr (.meth (.var 2) .append [(.tup [(.gc (.call 13 [(.var 0),(.bin .Add (.var 1) (.var 3)),(.lit (.int 2))])),(.var 4),(.gc (.call 13 [(.var 0),(.bin .Add (.var 1) (.var 3)),(.lit (.int 6))]))])])],
  .ite (.cmp .Eq (.gc (.call 11 [(.var 0),(.var 1),(.lit (.int 10)),(.lit (.int 3))])) (.lit (.int 0))) [.ret (.tup [(.lit (.str (PySem.Str.ofString "open"))),(.bcall .tuple [(.var 2)])])] [],
  .set (.var 5) (.tup [(.lit (.str (PySem.Str.ofString "ground")))]),
  .ite (.cmp .Gt (.gc (.call 11 [(.var 0),(.var 1),(.lit (.int 11)),(.lit (.int 3))])) (.lit (.int 0))) [.set (.var 5) (.tup [(.lit (.str (PySem.Str.ofString "dip"))),(.gc (.call 13 [(.var 0),(.var 1),(.lit (.int 12))])),(.gc (.call 13 [(.var 0),(.var 1),(.lit (.int 16))]))])] [],
  .set (.var 6) (.gc (.comp (.var 0) (.rng1 (.gc (.call 11 [(.var 0),(.var 1),(.lit (.int 24)),(.lit (.int 7))]))) none (.gc (.call 13 [(.var 1),(.bin .Add (.var 2) (.var 0)),(.lit (.int 20))])) [none,some 0,some 1])),
  .ret (.tup [(.lit (.str (PySem.Str.ofString "held"))),(.gc (.call 13 [(.var 0),(.var 1),(.lit (.int 25))])),(.var 5),(.bcall .tuple [(.var 6)]),(.bcall .tuple [(.var 2)])])]
def f_law_loose_paper : M.Fn:=⟨2,7,b_law_loose_paper⟩
def b_law : List M.S:=[
  .set (.var 1) (.gc (.call 15 [(.var 0),(.lit (.int 1))])),
  .set (.var 2) (.gc (.call 4 [(.var 1)])),
  .ite (.not (.gc (.call 12 [(.var 2),(.gc (.call 14 [(.var 1)]))]))) [.ret (.lit (.bl false))] [],
  .ret (.call 12 [(.gc (.call 10 [(.var 2)])),(.var 1)])]
def f_law : M.Fn:=⟨1,3,b_law⟩
def fns : List M.Fn:=[f_all_figures,f_number,f_read_numbers,f_shown_others,f_shown_paper,f_parted_at,f_read_other,f_read_others,f_read_way,f_read_held,f_read_paper,f_law_draw,f_law_same,f_law_great,f_law_flat_paper,f_law_loose_paper,f_law]
theorem hFig : fns[0]? = some fFig:=rfl
theorem hNum : fns[1]? = some (fNum 0):=rfl
theorem hDraw : fns[11]? = some fDraw:=rfl
theorem hSame : fns[12]? = some (fSame 12):=rfl
def tD (p : List Nat) : D:=.str (mk p)
def iD (k : Nat) : D:=.int (k : Int)
def nSm (k : Nat) : Prop:=k < 10 ^ 45
theorem nSm.sm {k : Nat} (h : nSm k) : Sm (k : Int):=⟨by omega,by unfold nSm at h; omega⟩
theorem nSm.str {k : Nat} (h : nSm k) (S : Store) : bStr S [iD k] = some (tD (natD k),S):=h.sm.str S
theorem nSm.len {k : Nat} (h : nSm k) : (natD k).length ≤ 45:=h.sm.len
def wOpen : List Nat:=[111,112,101,110]
def wHeld : List Nat:=[104,101,108,100]
def wGround : List Nat:=[103,114,111,117,110,100]
def wDip : List Nat:=[100,105,112]
def wYears : List Nat:=[121,101,97,114,115]
def wOthers : List Nat:=[111,116,104,101,114,115]
def wGiven : List Nat:=[103,105,118,101,110]
def wFallen : List Nat:=[102,97,108,108,101,110]
def wUnvested : List Nat:=[117,110,118,101,115,116,101,100]
def wYounger : List Nat:=[121,111,117,110,103,101,114]
theorem xOpen : PySem.Str.ofString "open" = mk wOpen:=by decide +kernel
theorem xHeld : PySem.Str.ofString "held" = mk wHeld:=by decide +kernel
theorem xGround : PySem.Str.ofString "ground" = mk wGround:=by decide +kernel
theorem xDip : PySem.Str.ofString "dip" = mk wDip:=by decide +kernel
theorem xYears : PySem.Str.ofString "years" = mk wYears:=by decide +kernel
theorem xOthers : PySem.Str.ofString "others" = mk wOthers:=by decide +kernel
theorem xGiven : PySem.Str.ofString "given" = mk wGiven:=by decide +kernel
theorem xFallen : PySem.Str.ofString "fallen" = mk wFallen:=by decide +kernel
theorem xUnvested : PySem.Str.ofString "unvested" = mk wUnvested:=by decide +kernel
theorem xYounger : PySem.Str.ofString "younger" = mk wYounger:=by decide +kernel
theorem xBlank : PySem.Str.ofString " " = mk [32]:=by decide +kernel
def wordsO : List (List Nat):=[wGiven,wFallen,wUnvested,wGround,wYounger]
theorem eq_tD (a b : List Nat) : eqT (tD a) (tD b) = (a == b):=by
  show eqT (.str (mk a)) (.str (mk b)) = _
  rw [eqT_ss,mk_beq]
theorem flats_map {α : Type} (g : α→D) (n : Nat) (h : ∀ x,flat n (g x) = true) : ∀ xs : List α,flats n (xs.map g) = true
  | []=>rfl
  | x::r=>by rw [List.map_cons,flats,h,flats_map g n h r]; rfl
theorem in_tD (S : Store) (w : List Nat) (ws : List (List Nat)) : inD S (tD w) (.lst (ws.map tD)) = some (ws.any (· == w)):=by
  simp only [inD,seqAt,Option.bind_some]
  rw [flats_map tD 9 (fun _=>rfl),show flat 9 (tD w) = true from rfl]
  simp only [Bool.and_self,if_true,List.any_map]
  congr 1
  refine List.any_congr rfl fun x=>?_
  exact eq_tD x w
theorem ix_tD (S : Store) (a b : List (List Nat)) (w : List Nat) (h : w ∉ a) : mIndex S (.lst ((a++w::b).map tD)) [tD w] = some (.int a.length,S):=by
  simp only [mIndex,seqAt,Option.bind_some]
  rw [flats_map tD 9 (fun _=>rfl),show flat 9 (tD w) = true from rfl]
  simp only [Bool.and_self,if_true]
  have : ((a++w::b).map tD).findIdx? (fun y=>eqT y (tD w)) = some a.length:=by
    rw [List.findIdx?_map]
    have e : ((fun y=>eqT y (tD w)) ∘ tD) = fun x=>x == w:=by funext x; exact eq_tD x w
    rw [e,List.findIdx?_eq_some_iff_getElem]
    refine ⟨by simp,by simp,fun j hj=>?_⟩
    rw [List.getElem_append_left hj]
    intro z
    rw [beq_iff_eq] at z
    exact h (z ▸ List.getElem_mem hj)
  rw [this]
  rfl
theorem cutIx_nat (n d v : Nat) : cutIx n d (some (v : Int)) = min v n:=by
  show (if (v : Int) < 0 then ((v : Int) + (n : Int)).toNat else min (v : Int).toNat n) = _
  rw [if_neg (by omega)]
  rfl
theorem cut_take {α : Type} (xs : List α) (n : Nat) (h : n ≤ xs.length) : cut xs none (some (n : Int)) = xs.take n:=by
  unfold cut
  rw [cutIx_nat,Nat.min_eq_left h]
  rfl
theorem cut_drop {α : Type} (xs : List α) (n : Nat) (h : n ≤ xs.length) : cut xs (some (n : Int)) none = xs.drop n:=by
  unfold cut
  rw [cutIx_nat,Nat.min_eq_left h]
  exact List.take_of_length_le (by rw [List.length_drop]; exact Nat.le_refl _)
theorem cut_mid {α : Type} (xs : List α) (a b : Nat) (h1 : a ≤ b) (h : b ≤ xs.length) : cut xs (some (a : Int)) (some (b : Int)) = (xs.drop a).take (b - a):=by
  unfold cut
  rw [cutIx_nat,cutIx_nat,Nat.min_eq_left h,Nat.min_eq_left (Nat.le_trans h1 h)]
theorem gc_sli {c : CF} {n : Nat} {τ : Sl} {st : Store} {a : E} {lo hi : Option E} {xs : List D} {l h : Option Int} (ha : (runK c n).ev τ st a = some (.lst xs,st)) (hlo : part (runK c n) τ st lo = some (l,st)) (hhi : part (runK c n) τ st hi = some (h,st)) (hd : noLocs (cut xs l h) = true) : (runK c (n + 2)).ev τ st (.gc (.sli a lo hi)) = some (.lst (cut xs l h),st):=by
  refine gc_evL ?_ hd
  show ((runK c n).ev τ st a).bind _ = _
  rw [ha]
  simp only [Option.bind_some,hlo,hhi,sliD,seqAt,Option.map_some]
  rfl
theorem nl_tD (ws : List (List Nat)) : noLocs (ws.map tD) = true:=noLocs_map fun _ _=>rfl
theorem nl_iD (ws : List Nat) : noLocs (ws.map iD) = true:=noLocs_map fun _ _=>rfl
theorem nums_ok (m : Nat) (st : Store) (ks : List Nat) (hk : ∀ k ∈ ks,nSm k) (hl : ks.length < 1000) : callD fns (m + 3) 2 [.lst ((ks.map natD).map tD)] st = some (.lst (ks.map iD),st):=by
  refine call_of (0 + 20) (F:=f_read_numbers) rfl rfl rfl ?_
  show exs (stepEx (rn fns (m + 2) (0 + 20))) b_read_numbers [some (.lst ((ks.map natD).map tD)),none] st = _
  unfold b_read_numbers
  have e1 : ∀ n : Nat,(rn fns (m + 2) (n + 10)).ev [some (.lst ((ks.map natD).map tD)),none] st (.gc (.comp (.var 0) (.var 0) none (.gc (.call 1 [(.var 0)])) [none])) = some (.lst (ks.map iD),st):=fun n=>by
    refine gc_comp (n:=n + 8) (s:=.lst (.lst ((ks.map natD).map tD))) (rest:=[]) ks (fun k=>tD (natD k)) iD (src_lst rfl) (fun i=>by rw [at_lst',List.map_map]; rfl) (by rw [size_lst']; simp) rfl (by omega) (fun _ _=>rfl) fun k hk'=>?_
    refine gc_ev (n:=n + 7) ?_ rfl
    have:=number_ok hFig hNum 0 m st (natD k) (natD_lt k) (by have:=(hk k hk').len; omega)
    rw [numV_nat] at this
    simp only [ev_k,stepEv,evs,List.getElem?_cons_zero,Option.bind_some,call_k]
    exact this
  rw [exs_cons (τ':=[some (.lst ((ks.map natD).map tD)),some (.lst (ks.map iD))]) (s':=st) (by simp only [stepEx,e1,Option.bind_some]; rfl)]
  have i1 : inD st .non (.lst (ks.map iD)) = some false:=by
    simp only [inD,seqAt,Option.bind_some]
    rw [flats_map iD 9 (fun _=>rfl),show flat 9 D.non = true from rfl]
    simp only [Bool.and_self,if_true,List.any_map]
    congr 1
    rw [List.any_eq_false]
    intro x _
    exact Bool.false_ne_true
  rw [exs_cons (τ':=[some (.lst ((ks.map natD).map tD)),some (.lst (ks.map iD))]) (s':=st) (by
    refine (stepEx_ite_f (st':=st) ?_).trans rfl
    simp only [tst_k,stepTst,ev_k,stepEv,List.getElem?_cons_succ,List.getElem?_cons_zero,Option.bind_some,cmpD,i1,Option.map_some])]
  refine exs_ret ?_
  simp only [stepEx,ev_k,stepEv,List.getElem?_cons_succ,List.getElem?_cons_zero,Option.map_some]
theorem parted_ok (m : Nat) (st : Store) (a b : List (List Nat)) (w : List Nat) (h : w ∉ a) : callD fns (m + 1) 5 [.lst ((a++w::b).map tD),tD w] st = some (.tup [.lst (a.map tD),.lst (b.map tD)],st):=by
  refine call_of (0 + 20) (F:=f_parted_at) rfl rfl rfl ?_
  show exs (stepEx (rn fns m (0 + 20))) b_parted_at [some (.lst ((a++w::b).map tD)),some (tD w),none] st = _
  unfold b_parted_at
  have i1 : inD st (tD w) (.lst ((a++w::b).map tD)) = some true:=by
    rw [in_tD]
    simp
  rw [exs_cons (τ':=[some (.lst ((a++w::b).map tD)),some (tD w),none]) (s':=st) (by
    refine (stepEx_ite_f (st':=st) ?_).trans rfl
    simp only [tst_k,stepTst,ev_k,stepEv,List.getElem?_cons_succ,List.getElem?_cons_zero,Option.bind_some,cmpD,i1,Option.map_some,Bool.not_true])]
  have my : mty st .index (.lst ((a++w::b).map tD)) = true:=rfl
  rw [exs_cons (τ':=[some (.lst ((a++w::b).map tD)),some (tD w),some (.int a.length)]) (s':=st) (by
    simp only [stepEx,ev_k,stepEv,evs,List.getElem?_cons_succ,List.getElem?_cons_zero,Option.bind_some,my,if_true,mfun,ix_tD st a b w h]
    rfl)]
  have s1 : ∀ n : Nat,(rn fns m (n + 10)).ev [some (.lst ((a++w::b).map tD)),some (tD w),some (.int a.length)] st (.gc (.sli (.var 0) none (some (.var 2)))) = some (.lst (a.map tD),st):=fun n=>by
    have:=gc_sli (c:=callD fns m) (n:=n + 8) (τ:=[some (.lst ((a++w::b).map tD)),some (tD w),some (.int a.length)]) (st:=st) (a:=.var 0) (lo:=none) (hi:=some (.var 2)) (xs:=(a++w::b).map tD) (l:=none) (h:=some (a.length : Int)) rfl rfl rfl (by rw [cut_take _ _ (by simp),← List.map_take]; exact nl_tD _)
    rw [cut_take _ _ (by simp),← List.map_take] at this
    simpa using this
  have s2 : ∀ n : Nat,(rn fns m (n + 10)).ev [some (.lst ((a++w::b).map tD)),some (tD w),some (.int a.length)] st (.gc (.sli (.var 0) (some (.bin .Add (.var 2) (.lit (.int 1)))) none)) = some (.lst (b.map tD),st):=fun n=>by
    have hi : (a.length : Int) + 1 = ((a.length + 1 : Nat) : Int):=by omega
    have:=gc_sli (c:=callD fns m) (n:=n + 8) (τ:=[some (.lst ((a++w::b).map tD)),some (tD w),some (.int a.length)]) (st:=st) (a:=.var 0) (lo:=some (.bin .Add (.var 2) (.lit (.int 1)))) (hi:=none) (xs:=(a++w::b).map tD) (l:=some ((a.length + 1 : Nat) : Int)) (h:=none) rfl (by
      simp only [part,ev_k,stepEv,List.getElem?_cons_succ,List.getElem?_cons_zero,Option.bind_some,binop,hi]) rfl (by rw [cut_drop _ _ (by simp),← List.map_drop]; exact nl_tD _)
    rw [cut_drop _ _ (by simp),← List.map_drop,show (a++w::b).drop (a.length + 1) = b by rw [← List.drop_drop]; simp] at this
    exact this
  refine exs_ret ?_
  simp only [stepEx]
  rw [ev_k]
  simp only [stepEv,evs,s1,s2,Option.bind_some]
  rfl
end K33
end
section
set_option linter.all false
set_option maxRecDepth 10000
set_option maxHeartbeats 4000000
namespace K33
open M
open PySem (Str)
structure Oth where
  c : Nat
  w : List Nat
  d : Nat
def Oth.ok (o : Oth) : Prop:=nSm o.c∧nSm o.d∧o.w ∈ wordsO
def oD (o : Oth) : D:=.tup [iD o.c,tD o.w,iD o.d]
def oP (o : Oth) : List (List Nat):=[natD o.c,o.w,natD o.d]
theorem words_in (S : Store) {w : List Nat} (h : w ∈ wordsO) : inD S (tD w) (.tup [(.str (PySem.Str.ofString "given")),(.str (PySem.Str.ofString "fallen")),(.str (PySem.Str.ofString "unvested")),(.str (PySem.Str.ofString "ground")),(.str (PySem.Str.ofString "younger"))]) = some true:=by
  rw [xGiven,xFallen,xUnvested,xGround,xYounger]
  have e : ([.str (mk wGiven),.str (mk wFallen),.str (mk wUnvested),.str (mk wGround),.str (mk wYounger)] : List D) = wordsO.map tD:=rfl
  rw [e]
  simp only [inD]
  rw [flats_map tD 9 (fun _=>rfl),show flat 9 (tD w) = true from rfl]
  simp only [Bool.and_self,if_true,List.any_map,Option.some.injEq]
  rw [List.any_eq_true]
  exact ⟨w,h,by show eqT (tD w) (tD w) = true; rw [eq_tD]; simp⟩
theorem other_ok (m : Nat) (st : Store) (o : Oth) (h : o.ok) : callD fns (m + 4) 6 [.lst ((oP o).map tD)] st = some (oD o,st):=by
  refine call_of (0 + 20) (F:=f_read_other) rfl rfl rfl ?_
  show exs (stepEx (rn fns (m + 3) (0 + 20))) b_read_other [some (.lst ((oP o).map tD)),none] st = _
  unfold b_read_other
  have x0 : ∀ S,idxD S (.lst ((oP o).map tD)) (.int 0) = some (tD (natD o.c)):=fun S=>rfl
  have x1 : ∀ S,idxD S (.lst ((oP o).map tD)) (.int 1) = some (tD o.w):=fun S=>rfl
  have x2 : ∀ S,idxD S (.lst ((oP o).map tD)) (.int 2) = some (tD (natD o.d)):=fun S=>rfl
  rw [exs_cons (τ':=[some (.lst ((oP o).map tD)),none]) (s':=st) (by
    refine (stepEx_ite_f (st':=st) ?_).trans rfl
    simp only [tst_k,stepTst,ev_k,stepEv,List.getElem?_cons_succ,List.getElem?_cons_zero,Option.bind_some,x1,cmpD,words_in _ h.2.2,Option.map_some,Bool.not_true])]
  have n1:=nums_ok m st [o.c,o.d] (by simp [h.1,h.2.1]) (by simp)
  have l1 : ∀ n : Nat,(rn fns (m + 3) (n + 10)).ev [some (.lst ((oP o).map tD)),none] st (.gc (.lst [(.idx (.var 0) (.lit (.int 0))),(.idx (.var 0) (.lit (.int 2)))])) = some (.lst ([o.c,o.d].map natD |>.map tD),st):=fun n=>by
    refine gc_lit (n:=n + 8) ?_ (by simp) (nl_tD _)
    simp only [evs,ev_k,stepEv,List.getElem?_cons_succ,List.getElem?_cons_zero,Option.bind_some,x0,x2,Option.map_some]
    rfl
  have c1 : ∀ n : Nat,(rn fns (m + 3) (n + 13)).ev [some (.lst ((oP o).map tD)),none] st (.gc (.call 2 [(.gc (.lst [(.idx (.var 0) (.lit (.int 0))),(.idx (.var 0) (.lit (.int 2)))]))])) = some (.lst ([o.c,o.d].map iD),st):=fun n=>by
    refine gc_ev (n:=n + 12) ?_ (nl_iD _)
    rw [ev_k]
    simp only [stepEv,evs,l1,Option.bind_some,call_k]
    exact n1
  rw [exs_cons (τ':=[some (.lst ((oP o).map tD)),some (.lst ([o.c,o.d].map iD))]) (s':=st) (by simp only [stepEx,c1,Option.bind_some]; rfl)]
  have y0 : ∀ S,idxD S (.lst ([o.c,o.d].map iD)) (.int 0) = some (iD o.c):=fun S=>rfl
  have y1 : ∀ S,idxD S (.lst ([o.c,o.d].map iD)) (.int 1) = some (iD o.d):=fun S=>rfl
  refine exs_ret ?_
  simp only [stepEx,ev_k,stepEv,evs,List.getElem?_cons_succ,List.getElem?_cons_zero,Option.bind_some,x1,y0,y1,Option.map_some]
  rfl
theorem flat_len (os : List Oth) : (os.flatMap oP).length = 3 * os.length:=by
  induction os with
  | nil=>rfl
  | cons o r ih=>rw [List.flatMap_cons,List.length_append,ih]; simp [oP]; omega
theorem flat_at : ∀ (os : List Oth) (i : Nat) (o : Oth),os[i]? = some o→((os.flatMap oP).drop (3 * i)).take 3 = oP o
  | [],i,o,h=>by simp at h
  | o'::r,0,o,h=>by
    cases h
    rw [List.flatMap_cons,Nat.mul_zero,List.drop_zero]
    exact List.take_append_of_le_length (by simp [oP])
  | o'::r,i + 1,o,h=>by
    rw [List.flatMap_cons,show 3 * (i + 1) = (oP o').length + 3 * i by simp [oP]; omega,← List.drop_drop,List.drop_left]
    exact flat_at r i o (by simpa using h)
theorem others_ok (m : Nat) (st : Store) (os : List Oth) (h : ∀ o ∈ os,o.ok) (hl : os.length < 100) : callD fns (m + 5) 7 [.lst ((os.flatMap oP).map tD)] st = some (.tup (os.map oD),st):=by
  refine call_of (0 + 20) (F:=f_read_others) rfl rfl rfl ?_
  show exs (stepEx (rn fns (m + 4) (0 + 20))) b_read_others [some (.lst ((os.flatMap oP).map tD))] st = _
  unfold b_read_others
  have hlen : ((os.flatMap oP).map tD).length = 3 * os.length:=by rw [List.length_map,flat_len]
  generalize hX : (os.flatMap oP).map tD = X at hlen ⊢
  have ln : ∀ S,bLen S [.lst X] = some (.int ((3 * os.length : Nat) : Int),S):=fun S=>by simp only [bLen,seqAt,Option.map_some,hlen]
  have md : ∀ S,binop S .Mod (.int ((3 * os.length : Nat) : Int)) (.int 3) = some (.int 0,S):=fun S=>by
    simp only [binop]
    rw [if_pos (by omega),show ((3 * os.length : Nat) : Int) % 3 = 0 by omega]
  rw [exs_cons (τ':=[some (.lst X)]) (s':=st) (by
    refine (stepEx_ite_f (st':=st) ?_).trans rfl
    simp only [tst_k,stepTst,ev_k,stepEv,evs,List.getElem?_cons_zero,Option.bind_some,bfun,ln,md,cmpD,neD,eqD_ii,Option.map_some]
    rfl)]
  have hb : big ((3 * os.length : Nat) : Int) = false:=by unfold big; simp; omega
  have sz : (if (0 : Int) < ((3 * os.length : Nat) : Int) then (((3 * os.length : Nat) : Int) - 0 - 1) / 3 + 1 else 0).toNat = os.length:=by split <;> omega
  have cm : ∀ n : Nat,(rn fns (m + 4) (n + 16)).ev [some (.lst X)] st (.gc (.comp (.var 0) (.rng3 (.lit (.int 0)) (.bcall .len [(.var 0)]) (.glo (PySem.Str.ofString "THINGS") (.int 3))) none (.gc (.call 6 [(.gc (.sli (.var 1) (some (.var 0)) (some (.bin .Add (.var 0) (.glo (PySem.Str.ofString "THINGS") (.int 3))))))])) [none,some 0])) = some (.lst (os.map oD),st):=fun n=>by
    have key:=gc_comp (c:=callD fns (m + 4)) (n:=n + 14) (τ:=[some (.lst X)]) (st:=st) (it:=.rng3 (.lit (.int 0)) (.bcall .len [(.var 0)]) (.glo (PySem.Str.ofString "THINGS") (.int 3))) (elt:=.gc (.call 6 [(.gc (.sli (.var 1) (some (.var 0)) (some (.bin .Add (.var 0) (.glo (PySem.Str.ofString "THINGS") (.int 3))))))])) (sr:=[none,some 0]) (s:=.rgs 0 3 os.length) (rest:=[some (.lst X)]) ((List.range os.length).zip os) (fun p=>.int ((0 : Int) + (p.1 : Nat) * 3)) (fun p=>oD p.2) (by
      simp only [src,ev_k,stepEv,evs,List.getElem?_cons_zero,Option.bind_some,bfun,ln,hb]
      rw [sz]
      rfl) (fun i=>by
      simp only [Src.at,List.getElem?_map]
      by_cases hi : i < os.length
      · rw [if_pos hi]
        have : ((List.range os.length).zip os)[i]? = some (i,os[i]):=by
          rw [List.getElem?_zip_eq_some]
          exact ⟨by rw [List.getElem?_range hi],by simp⟩
        rw [this]
        rfl
      · rw [if_neg hi,List.getElem?_eq_none (by simpa using hi)]
        rfl) (by simp [Src.size]) rfl (by simp; omega) (fun _ _=>rfl) (fun p hp=>by
      obtain ⟨j,o⟩:=p
      obtain ⟨i,hi⟩:=List.mem_iff_getElem?.mp hp
      rw [List.getElem?_zip_eq_some] at hi
      obtain ⟨h1,h2⟩:=hi
      have hlt:=(List.getElem?_eq_some_iff.mp h2).1
      rw [List.getElem?_range hlt] at h1
      have hij : i = j:=Option.some.inj h1
      subst hij
      have s1 : ∀ n : Nat,(rn fns (m + 4) (n + 8)).ev [some (.int ((0 : Int) + (i : Nat) * 3)),some (.lst X)] st (.gc (.sli (.var 1) (some (.var 0)) (some (.bin .Add (.var 0) (.glo (PySem.Str.ofString "THINGS") (.int 3)))))) = some (.lst ((oP o).map tD),st):=fun n=>by
        have e1 : (0 : Int) + (i : Nat) * 3 = ((3 * i : Nat) : Int):=by omega
        have e2 : ((3 * i : Nat) : Int) + 3 = ((3 * i + 3 : Nat) : Int):=by omega
        rw [e1]
        have e3 : cut X (some ((3 * i : Nat) : Int)) (some ((3 * i + 3 : Nat) : Int)) = (oP o).map tD:=by
          rw [cut_mid _ _ _ (by omega) (by omega),show 3 * i + 3 - 3 * i = 3 by omega,← hX,← List.map_drop,← List.map_take,flat_at os i o h2]
        have:=gc_sli (c:=callD fns (m + 4)) (n:=n + 6) (τ:=[some (.int ((3 * i : Nat) : Int)),some (.lst X)]) (st:=st) (a:=.var 1) (lo:=some (.var 0)) (hi:=some (.bin .Add (.var 0) (.glo (PySem.Str.ofString "THINGS") (.int 3)))) (xs:=X) (l:=some ((3 * i : Nat) : Int)) (h:=some ((3 * i + 3 : Nat) : Int)) rfl rfl (by
          simp only [part,ev_k,stepEv,List.getElem?_cons_zero,Option.bind_some,binop,e2]) (by rw [e3]; exact nl_tD _)
        rw [e3] at this
        exact this
      refine gc_ev (n:=n + 13) ?_ rfl
      rw [ev_k]
      simp only [stepEv,evs,s1,Option.bind_some,call_k]
      exact other_ok m st o (h o (List.mem_of_getElem? h2)))
    rw [key]
    congr 3
    have : (List.range os.length).zip os = (List.range os.length).zip os:=rfl
    rw [show (fun p : Nat × Oth=>oD p.2) = oD ∘ Prod.snd from rfl,← List.map_map,List.map_snd_zip (by simp)]
  refine exs_ret ?_
  simp only [stepEx]
  rw [ev_k]
  simp only [stepEv,evs,cm,Option.bind_some,bfun,bTuple,seqAt,Option.map_some]
end K33
end
section
set_option linter.all false
set_option maxRecDepth 10000
set_option maxHeartbeats 4000000
namespace K33
open M
open PySem (Str)
inductive Way where
  | dip (v c : Nat)
  | ground
def Way.ok : Way→Prop
  | .dip v c=>nSm v∧nSm c
  | .ground=>True
def wayD : Way→D
  | .dip v c=>.tup [tD wDip,iD v,iD c]
  | .ground=>.tup [tD wGround]
def wayP : Way→List (List Nat)
  | .dip v c=>[wDip,natD v,natD c]
  | .ground=>[wGround]
theorem eq_ts (S : Store) (a b : List (List Nat)) : eqD S (.lst (a.map tD)) (.lst (b.map tD)) = some (a == b):=by
  show (if flats 9 (a.map tD) && flats 9 (b.map tD) then some (eqTs (a.map tD) (b.map tD)) else none) = _
  rw [flats_map tD 9 (fun _=>rfl),flats_map tD 9 (fun _=>rfl)]
  simp only [Bool.and_self,if_true,Option.some.injEq]
  induction a generalizing b with
  | nil=>cases b <;> rfl
  | cons x r ih =>
    cases b with
    | nil=>rfl
    | cons y t =>
      show (eqT (tD x) (tD y) && eqTs (r.map tD) (t.map tD)) = _
      rw [eq_tD,ih t]
      rfl
theorem way_ok (m : Nat) (st : Store) (w : Way) (h : w.ok) : callD fns (m + 4) 8 [.lst ((wayP w).map tD)] st = some (wayD w,st):=by
  refine call_of (0 + 20) (F:=f_read_way) rfl rfl rfl ?_
  show exs (stepEx (rn fns (m + 3) (0 + 20))) b_read_way [some (.lst ((wayP w).map tD))] st = _
  unfold b_read_way
  have l1 : ∀ n : Nat,(rn fns (m + 3) (n + 5)).ev [some (.lst ((wayP w).map tD))] st (.gc (.lst [(.lit (.str (PySem.Str.ofString "ground")))])) = some (.lst ([wGround].map tD),st):=fun n=>by
    refine gc_lit (n:=n + 3) ?_ (by simp) (nl_tD _)
    rw [xGround]
    rfl
  have t1 : ∀ n : Nat,(rn fns (m + 3) (n + 10)).tst [some (.lst ((wayP w).map tD))] st (.cmp .Eq (.var 0) (.gc (.lst [(.lit (.str (PySem.Str.ofString "ground")))]))) = some (wayP w == [wGround],st):=fun n=>by
    have v0 : ∀ n : Nat,(rn fns (m + 3) (n + 1)).ev [some (.lst ((wayP w).map tD))] st (.var 0) = some (.lst ((wayP w).map tD),st):=fun n=>rfl
    rw [tst_k]
    simp only [stepTst,v0,l1,Option.bind_some,cmpD,eq_ts,Option.map_some]
  cases w with
  | ground =>
    refine exs_ret ((stepEx_ite_t (st':=st) (by rw [t1]; rfl)).trans ?_)
    rw [ex_k]
    refine exs_ret ?_
    rw [xGround]
    rfl
  | dip v c =>
    rw [exs_cons (τ':=[some (.lst ((wayP (.dip v c)).map tD))]) (s':=st) (by refine (stepEx_ite_f (st':=st) ?_).trans rfl; rw [t1]; rfl)]
    have l2 : ∀ n : Nat,(rn fns (m + 3) (n + 5)).ev [some (.lst ((wayP (.dip v c)).map tD))] st (.gc (.lst [(.lit (.str (PySem.Str.ofString "dip")))])) = some (.lst ([wDip].map tD),st):=fun n=>by
      refine gc_lit (n:=n + 3) ?_ (by simp) (nl_tD _)
      rw [xDip]
      rfl
    have s2 : ∀ n : Nat,(rn fns (m + 3) (n + 5)).ev [some (.lst ((wayP (.dip v c)).map tD))] st (.gc (.sli (.var 0) none (some (.lit (.int 1))))) = some (.lst ([wDip].map tD),st):=fun n =>
      gc_sli (c:=callD fns (m + 3)) (n:=n + 3) (xs:=(wayP (.dip v c)).map tD) (l:=none) (h:=some 1) rfl rfl rfl rfl
    rw [exs_cons (τ':=[some (.lst ((wayP (.dip v c)).map tD))]) (s':=st) (by
      refine (stepEx_ite_f (st':=st) ?_).trans rfl
      rw [tst_k]
      simp only [stepTst,tst_k,s2,l2,Option.bind_some,cmpD,neD,eq_ts,Option.map_some]
      rfl)]
    have s3 : ∀ n : Nat,(rn fns (m + 3) (n + 5)).ev [some (.lst ((wayP (.dip v c)).map tD))] st (.gc (.sli (.var 0) (some (.lit (.int 1))) none)) = some (.lst ([v,c].map natD |>.map tD),st):=fun n =>
      gc_sli (c:=callD fns (m + 3)) (n:=n + 3) (xs:=(wayP (.dip v c)).map tD) (l:=some 1) (h:=none) rfl rfl rfl rfl
    have c3 : ∀ n : Nat,(rn fns (m + 3) (n + 8)).ev [some (.lst ((wayP (.dip v c)).map tD))] st (.gc (.call 2 [(.gc (.sli (.var 0) (some (.lit (.int 1))) none))])) = some (.lst ([v,c].map iD),st):=fun n=>by
      refine gc_ev (n:=n + 7) ?_ (nl_iD _)
      rw [ev_k]
      simp only [stepEv,evs,s3,Option.bind_some,call_k]
      exact nums_ok m st [v,c] (by simp [h.1,h.2]) (by simp)
    refine exs_ret ?_
    simp only [stepEx]
    rw [ev_k]
    simp only [stepEv]
    have a1 : ∀ n : Nat,(rn fns (m + 3) (n + 8)).ev [some (.lst ((wayP (.dip v c)).map tD))] st (.tup [(.lit (.str (PySem.Str.ofString "dip")))]) = some (.tup [tD wDip],st):=fun n=>by rw [xDip]; rfl
    have a2 : ∀ n : Nat,(rn fns (m + 3) (n + 10)).ev [some (.lst ((wayP (.dip v c)).map tD))] st (.bcall .tuple [(.gc (.call 2 [(.gc (.sli (.var 0) (some (.lit (.int 1))) none))]))]) = some (.tup ([v,c].map iD),st):=fun n=>by
      rw [ev_k]
      simp only [stepEv,evs,c3,Option.bind_some,bfun,bTuple,seqAt,Option.map_some]
    simp only [a1,a2,Option.bind_some]
    rfl
theorem held_ok (m : Nat) (st : Store) (c : Nat) (w : Way) (ys : List Nat) (oo : D) (hc : nSm c) (hw : w.ok) (hy : ∀ y ∈ ys,nSm y) (hl : ys.length < 100) (hoo : noLoc oo = true) :
    callD fns (m + 5) 9 [.lst ((wHeld::natD c::(wayP w++wYears::ys.map natD)).map tD),oo] st = some (.tup [tD wHeld,iD c,wayD w,.tup (ys.map iD),oo],st):=by
  have hny : wYears ∉ wHeld::natD c::wayP w:=by
    have hf : ∀ k,wYears ≠ natD k:=fun k h=>by
      have:=List.all_eq_true.mp (natD_fig k) 121 (by rw [← h]; decide)
      exact absurd this (by decide)
    intro h
    rw [List.mem_cons,List.mem_cons] at h
    rcases h with h | h | h
    · exact absurd h (by decide)
    · exact hf c h
    · cases w with
      | ground=>rw [wayP,List.mem_singleton] at h; exact absurd h (by decide)
      | dip v c' =>
        rw [wayP] at h
        simp only [List.mem_cons,List.not_mem_nil,or_false] at h
        rcases h with h | h | h
        · exact absurd h (by decide)
        · exact hf v h
        · exact hf c' h
  have pa:=parted_ok (m + 3) st (wHeld::natD c::wayP w) (ys.map natD) wYears hny
  have e0 : (wHeld::natD c::wayP w)++wYears::ys.map natD = wHeld::natD c::(wayP w++wYears::ys.map natD):=rfl
  rw [e0] at pa
  generalize (wHeld::natD c::(wayP w++wYears::ys.map natD)).map tD = X at pa ⊢
  obtain ⟨hd,hhd⟩ : ∃ hd,hd = (wHeld::natD c::wayP w).map tD:=⟨_,rfl⟩
  rw [← hhd] at pa
  refine call_of (0 + 20) (F:=f_read_held) rfl rfl rfl ?_
  show exs (stepEx (rn fns (m + 4) (0 + 20))) b_read_held [some (.lst X),some oo,none,none,none] st = _
  unfold b_read_held
  have nhd : noLocs hd = true:=by rw [hhd]; exact nl_tD _
  have np : noLoc (.tup [.lst hd,.lst ((ys.map natD).map tD)]) = true:=by
    rw [noLoc_tup,noLocs_cons,noLocs_cons,noLoc_lst,noLoc_lst,nhd,nl_tD]
    rfl
  rw [exs_cons (τ':=[some (.lst X),some oo,some (.tup [.lst hd,.lst ((ys.map natD).map tD)]),none,none]) (s':=st) (by
    have : ∀ n : Nat,(rn fns (m + 4) (n + 10)).ev [some (.lst X),some oo,none,none,none] st (.gc (.call 5 [(.var 0),(.lit (.str (PySem.Str.ofString "years")))])) = some (.tup [.lst hd,.lst ((ys.map natD).map tD)],st):=fun n=>by
      refine gc_ev (n:=n + 9) ?_ np
      rw [xYears]
      simp only [ev_k,stepEv,evs,List.getElem?_cons_zero,Option.bind_some,call_k]
      exact pa
    simp only [stepEx,this,Option.bind_some]
    rfl)]
  rw [exs_cons (τ':=[some (.lst X),some oo,some (.tup [.lst hd,.lst ((ys.map natD).map tD)]),some (.lst hd),none]) (s':=st) rfl]
  generalize hT : ([some (.lst X),some oo,some (.tup [.lst hd,.lst ((ys.map natD).map tD)]),some (.lst hd),none] : Sl) = T3
  have v3 : T3[3]? = some (some (.lst hd)):=by rw [← hT]; rfl
  have v2 : T3[2]? = some (some (.tup [.lst hd,.lst ((ys.map natD).map tD)])):=by rw [← hT]; rfl
  have ev3 : ∀ n : Nat,(rn fns (m + 4) (n + 1)).ev T3 st (.var 3) = some (.lst hd,st):=fun n=>by rw [ev_k]; simp only [stepEv,v3]
  have c1 : cut hd none (some 1) = [wHeld].map tD:=by rw [hhd]; rfl
  have c2 : cut hd (some 1) (some 2) = [natD c].map tD:=by
    have:=cut_mid hd 1 2 (by omega) (by rw [hhd]; simp)
    rw [hhd] at this ⊢
    exact this
  have c3 : cut hd (some 2) none = (wayP w).map tD:=by
    have:=cut_drop hd 2 (by rw [hhd]; simp)
    rw [hhd] at this ⊢
    exact this
  have s1 : ∀ n : Nat,(rn fns (m + 4) (n + 5)).ev T3 st (.gc (.sli (.var 3) none (some (.lit (.int 1))))) = some (.lst ([wHeld].map tD),st):=fun n=>by
    have:=gc_sli (c:=callD fns (m + 4)) (n:=n + 3) (τ:=T3) (st:=st) (a:=.var 3) (lo:=none) (hi:=some (.lit (.int 1))) (xs:=hd) (l:=none) (h:=some 1) (ev3 _) rfl rfl (by rw [c1]; exact nl_tD _)
    rw [c1] at this
    exact this
  have s2 : ∀ n : Nat,(rn fns (m + 4) (n + 5)).ev T3 st (.gc (.sli (.var 3) (some (.lit (.int 1))) (some (.lit (.int 2))))) = some (.lst ([natD c].map tD),st):=fun n=>by
    have:=gc_sli (c:=callD fns (m + 4)) (n:=n + 3) (τ:=T3) (st:=st) (a:=.var 3) (lo:=some (.lit (.int 1))) (hi:=some (.lit (.int 2))) (xs:=hd) (l:=some 1) (h:=some 2) (ev3 _) rfl rfl (by rw [c2]; exact nl_tD _)
    rw [c2] at this
    exact this
  have s3 : ∀ n : Nat,∀ T : Sl,T[3]? = some (some (.lst hd))→(rn fns (m + 4) (n + 5)).ev T st (.gc (.sli (.var 3) (some (.lit (.int 2))) none)) = some (.lst ((wayP w).map tD),st):=fun n T hT=>by
    have:=gc_sli (c:=callD fns (m + 4)) (n:=n + 3) (τ:=T) (st:=st) (a:=.var 3) (lo:=some (.lit (.int 2))) (hi:=none) (xs:=hd) (l:=some 2) (h:=none) (by rw [ev_k]; simp only [stepEv,hT]) rfl rfl (by rw [c3]; exact nl_tD _)
    rw [c3] at this
    exact this
  have l1 : ∀ n : Nat,(rn fns (m + 4) (n + 5)).ev T3 st (.gc (.lst [(.lit (.str (PySem.Str.ofString "held")))])) = some (.lst ([wHeld].map tD),st):=fun n=>by
    refine gc_lit (n:=n + 3) ?_ (by simp) (nl_tD _)
    rw [xHeld]
    rfl
  have hlen : 2 ≤ hd.length:=by rw [hhd]; simp
  rw [exs_cons (τ':=T3) (s':=st) (by
    refine (stepEx_ite_f (st':=st) ?_).trans rfl
    rw [tst_k]
    simp only [stepTst,tst_k,s1,l1,Option.bind_some,cmpD,neD,eq_ts,Option.map_some,beq_self_eq_true,Bool.not_true,Bool.false_eq_true,if_false]
    rw [ev_k]
    simp only [stepEv,evs,ev3,Option.bind_some,bfun,bLen,seqAt,Option.map_some,ev_k,cmpD]
    rw [decide_eq_false (by omega)])]
  have c4 : ∀ n : Nat,(rn fns (m + 4) (n + 10)).ev T3 st (.idx (.gc (.call 2 [(.gc (.sli (.var 3) (some (.lit (.int 1))) (some (.lit (.int 2)))))])) (.lit (.int 0))) = some (iD c,st):=fun n=>by
    have : ∀ n : Nat,(rn fns (m + 4) (n + 8)).ev T3 st (.gc (.call 2 [(.gc (.sli (.var 3) (some (.lit (.int 1))) (some (.lit (.int 2)))))])) = some (.lst ([c].map iD),st):=fun n=>by
      refine gc_ev (n:=n + 7) ?_ (nl_iD _)
      rw [ev_k]
      simp only [stepEv,evs,s2,Option.bind_some,call_k]
      exact nums_ok (m + 1) st [c] (by simp [hc]) (by simp)
    rw [ev_k]
    simp only [stepEv,this,Option.bind_some]
    rfl
  have t5 : T3.set 4 (some (iD c)) = [some (.lst X),some oo,some (.tup [.lst hd,.lst ((ys.map natD).map tD)]),some (.lst hd),some (iD c)]:=by rw [← hT]; rfl
  rw [exs_cons (τ':=[some (.lst X),some oo,some (.tup [.lst hd,.lst ((ys.map natD).map tD)]),some (.lst hd),some (iD c)]) (s':=st) (by
    simp only [stepEx,c4,Option.bind_some,setT]
    rw [if_pos (by rw [← hT]; exact (by decide : 4 < 5)),t5]
    rfl)]
  generalize hT5 : ([some (.lst X),some oo,some (.tup [.lst hd,.lst ((ys.map natD).map tD)]),some (.lst hd),some (iD c)] : Sl) = T5
  have w1 : ∀ n : Nat,(rn fns (m + 4) (n + 10)).ev T5 st (.gc (.call 8 [(.gc (.sli (.var 3) (some (.lit (.int 2))) none))])) = some (wayD w,st):=fun n=>by
    refine gc_ev (n:=n + 9) ?_ (by cases w <;> rfl)
    rw [ev_k]
    simp only [stepEv,evs,s3 _ T5 (by rw [← hT5]; rfl),Option.bind_some,call_k]
    exact way_ok m st w hw
  have w2 : ∀ n : Nat,(rn fns (m + 4) (n + 12)).ev T5 st (.bcall .tuple [(.gc (.call 2 [(.idx (.var 2) (.lit (.int 1)))]))]) = some (.tup (ys.map iD),st):=fun n=>by
    have : ∀ n : Nat,(rn fns (m + 4) (n + 8)).ev T5 st (.gc (.call 2 [(.idx (.var 2) (.lit (.int 1)))])) = some (.lst (ys.map iD),st):=fun n=>by
      refine gc_ev (n:=n + 7) ?_ (nl_iD _)
      have x : ∀ n : Nat,(rn fns (m + 4) (n + 5)).ev T5 st (.idx (.var 2) (.lit (.int 1))) = some (.lst ((ys.map natD).map tD),st):=fun n=>by rw [← hT5]; rfl
      rw [ev_k]
      simp only [stepEv,evs,x,Option.bind_some,call_k]
      exact nums_ok (m + 1) st ys hy (by omega)
    rw [ev_k]
    simp only [stepEv,evs,this,Option.bind_some,bfun,bTuple,seqAt,Option.map_some]
  have w0 : ∀ n : Nat,(rn fns (m + 4) (n + 3)).ev T5 st (.lit (.str (PySem.Str.ofString "held"))) = some (tD wHeld,st):=fun n=>by rw [xHeld]; rfl
  have w4 : ∀ n : Nat,(rn fns (m + 4) (n + 3)).ev T5 st (.var 4) = some (iD c,st):=fun n=>by rw [← hT5]; rfl
  have w5 : ∀ n : Nat,(rn fns (m + 4) (n + 3)).ev T5 st (.var 1) = some (oo,st):=fun n=>by rw [← hT5]; rfl
  refine exs_ret ?_
  simp only [stepEx]
  rw [ev_k]
  simp only [stepEv,evs,w0,w1,w2,w4,w5,Option.bind_some]
  rfl
end K33
end
section
set_option linter.all false
set_option maxRecDepth 10000
set_option maxHeartbeats 4000000
namespace K33
open M
open PySem (Str)
inductive Pap where
  | op (os : List Oth)
  | held (c : Nat) (w : Way) (ys : List Nat) (os : List Oth)
def Pap.ok : Pap→Prop
  | .op os=>(∀ o ∈ os,o.ok)∧os.length < 20
  | .held c w ys os=>nSm c∧w.ok∧(∀ y ∈ ys,nSm y)∧ys.length < 20∧(∀ o ∈ os,o.ok)∧os.length < 20
def papD : Pap→D
  | .op os=>.tup [tD wOpen,.tup (os.map oD)]
  | .held c w ys os=>.tup [tD wHeld,iD c,wayD w,.tup (ys.map iD),.tup (os.map oD)]
def papH : Pap→List (List Nat)
  | .op os=>[wOpen]
  | .held c w ys os=>wHeld::natD c::(wayP w++wYears::ys.map natD)
def papO : Pap→List Oth
  | .op os=>os
  | .held _ _ _ os=>os
def papP (p : Pap) : List (List Nat):=papH p++wOthers::(papO p).flatMap oP
def papX (p : Pap) : List Nat:=joinC 32 (papP p)
theorem nat_ne {w : List Nat} {c : Nat} (hc : c ∈ w) (hf : isFig c = false) (k : Nat) : w ≠ natD k:=fun h=>by
  have:=List.all_eq_true.mp (natD_fig k) c (h ▸ hc)
  rw [hf] at this
  cases this
theorem nOthers (p : Pap) : wOthers ∉ papH p:=by
  have hf:=nat_ne (w:=wOthers) (c:=111) (by decide) (by decide)
  cases p with
  | op os =>
    rw [papH,List.mem_singleton]
    decide
  | held c w ys os =>
    intro h
    rw [papH] at h
    simp only [List.mem_cons,List.mem_append,List.mem_map] at h
    rcases h with h | h | h | h | ⟨y,_,h⟩
    · exact absurd h (by decide)
    · exact hf c h
    · cases w with
      | ground=>rw [wayP,List.mem_singleton] at h; exact absurd h (by decide)
      | dip v c' =>
        rw [wayP] at h
        simp only [List.mem_cons,List.not_mem_nil,or_false] at h
        rcases h with h | h | h
        · exact absurd h (by decide)
        · exact hf v h
        · exact hf c' h
    · exact absurd h (by decide)
    · exact hf y h.symm
def gd (p : List Nat) : Prop:=32 ∉ p∧p.length ≤ 45
theorem gd_nat {k : Nat} (h : nSm k) : gd (natD k):=⟨fig_ne (by decide),h.len⟩
theorem gd_o {o : Oth} (h : o.ok) : ∀ p ∈ oP o,gd p:=by
  intro p hp
  simp only [oP,List.mem_cons,List.not_mem_nil,or_false] at hp
  rcases hp with rfl | rfl | rfl
  · exact gd_nat h.1
  · have : ∀ w ∈ wordsO,gd w:=by unfold gd; decide
    exact this _ h.2.2
  · exact gd_nat h.2.1
theorem gd_os {os : List Oth} (h : ∀ o ∈ os,o.ok) : ∀ p ∈ os.flatMap oP,gd p:=fun p hp=>by
  obtain ⟨o,ho,hp⟩:=List.mem_flatMap.mp hp
  exact gd_o (h o ho) p hp
theorem gd_w {w : Way} (h : w.ok) : ∀ p ∈ wayP w,gd p:=by
  cases w with
  | ground=>intro p hp; rw [wayP,List.mem_singleton] at hp; subst hp; unfold gd; decide
  | dip v c =>
    intro p hp
    simp only [wayP,List.mem_cons,List.not_mem_nil,or_false] at hp
    rcases hp with rfl | rfl | rfl
    · unfold gd; decide
    · exact gd_nat h.1
    · exact gd_nat h.2
theorem pap_gd {p : Pap} (h : p.ok) : ∀ x ∈ papP p,gd x:=by
  intro x hx
  rw [papP,List.mem_append,List.mem_cons] at hx
  have ho : gd wOthers:=by unfold gd; decide
  cases p with
  | op os =>
    rcases hx with hx | rfl | hx
    · rw [papH,List.mem_singleton] at hx; subst hx; unfold gd; decide
    · exact ho
    · exact gd_os h.1 x hx
  | held c w ys os =>
    obtain ⟨h1,h2,h3,_,h4,_⟩:=h
    rcases hx with hx | rfl | hx
    · rw [papH] at hx
      simp only [List.mem_cons,List.mem_append,List.mem_map] at hx
      rcases hx with rfl | rfl | hx | rfl | ⟨y,hy,rfl⟩
      · unfold gd; decide
      · exact gd_nat h1
      · exact gd_w h2 x hx
      · unfold gd; decide
      · exact gd_nat (h3 y hy)
    · exact ho
    · exact gd_os h4 x hx
theorem pap_len {p : Pap} (h : p.ok) : (papP p).length ≤ 200:=by
  rw [papP,List.length_append,List.length_cons,flat_len]
  cases p with
  | op os =>
    have:=h.2
    simp only [papH,papO,List.length_singleton]
    omega
  | held c w ys os =>
    obtain ⟨_,_,_,h3,_,h4⟩:=h
    have : (wayP w).length ≤ 3:=by cases w <;> simp [wayP]
    simp only [papH,papO,List.length_cons,List.length_append,List.length_map]
    omega
theorem pap_ne (p : Pap) : ∃ a r,papP p = a::r:=by cases p <;> exact ⟨_,_,rfl⟩
theorem split_ok {p : Pap} (h : p.ok) (S : Store) : mSplit S (.str (mk (papX p))) [.str (mk [32])] = some (.loc S.length,S++[.lst true ((papP p).map tD)]):=by
  obtain ⟨a,r,e⟩:=pap_ne p
  have hg:=pap_gd h
  have hl:=pap_len h
  have:=joinC_len 32 45 (papP p) fun x hx=>(hg x hx).2
  unfold papX
  rw [e] at hg this hl ⊢
  exact split_list (hg a List.mem_cons_self).1 (fun q hq=>(hg q (List.mem_cons_of_mem _ hq)).1) (by
    have h2 : (a::r).length * (45 + 1) ≤ 200 * 46:=Nat.mul_le_mul_right _ hl
    omega)
theorem join_ok {p : Pap} (h : p.ok) (S : Store) (d : D) (hd : seqAt S d = some ((papP p).map tD)) : mJoin S (.str (mk [32])) [d] = some (.str (mk (papX p)),S) :=
  join_list (ps:=papP p) hd (fun x hx=>by have:=(pap_gd h x hx).2; omega) (by have:=pap_len h; omega)
theorem wayD_nl (w : Way) : noLoc (wayD w) = true:=by cases w <;> rfl
theorem oD_nl (os : List Oth) : noLocs (os.map oD) = true:=noLocs_map fun _ _=>rfl
theorem papD_nl (p : Pap) : noLoc (papD p) = true:=by
  cases p with
  | op os=>rw [papD,noLoc_tup,noLocs_cons,noLocs_cons,noLoc_tup,oD_nl]; rfl
  | held c w ys os =>
    rw [papD,noLoc_tup]
    simp only [noLocs_cons,noLoc_tup,oD_nl,nl_iD,wayD_nl,noLocs_nil]
    rfl
theorem paper_ok (m : Nat) (st : Store) (p : Pap) (h : p.ok) : callD fns (m + 6) 10 [.str (mk (papX p))] st = some (papD p,st):=by
  have pa:=parted_ok (m + 4) st (papH p) ((papO p).flatMap oP) wOthers (nOthers p)
  have hos : (∀ o ∈ papO p,o.ok)∧(papO p).length < 20:=by
    cases p with
    | op os=>exact h
    | held c w ys os=>exact ⟨h.2.2.2.2.1,h.2.2.2.2.2⟩
  have po:=others_ok m st (papO p) hos.1 (by omega)
  refine call_of (0 + 20) (F:=f_read_paper) rfl rfl rfl ?_
  show exs (stepEx (rn fns (m + 5) (0 + 20))) b_read_paper [some (.str (mk (papX p))),none,none] st = _
  unfold b_read_paper
  have my : ∀ S z,mty S .split (.str z) = true:=fun _ _=>rfl
  have s1 : ∀ n : Nat,(rn fns (m + 5) (n + 6)).ev [some (.str (mk (papX p))),none,none] st (.gc (.meth (.var 0) .split [(.lit (.str (PySem.Str.ofString " ")))])) = some (.lst ((papP p).map tD),st):=fun n=>by
    refine gc_evL (n:=n + 5) ?_ (nl_tD _)
    rw [xBlank]
    simp only [ev_k,stepEv,evs,List.getElem?_cons_zero,Option.bind_some,my,if_true,mfun,split_ok h]
  have np : noLoc (.tup [.lst ((papH p).map tD),.lst (((papO p).flatMap oP).map tD)]) = true:=by
    rw [noLoc_tup,noLocs_cons,noLocs_cons,noLoc_lst,noLoc_lst,nl_tD,nl_tD]
    rfl
  rw [exs_cons (τ':=[some (.str (mk (papX p))),some (.tup [.lst ((papH p).map tD),.lst (((papO p).flatMap oP).map tD)]),none]) (s':=st) (by
    have : ∀ n : Nat,(rn fns (m + 5) (n + 10)).ev [some (.str (mk (papX p))),none,none] st (.gc (.call 5 [(.gc (.meth (.var 0) .split [(.lit (.str (PySem.Str.ofString " ")))])),(.lit (.str (PySem.Str.ofString "others")))])) = some (.tup [.lst ((papH p).map tD),.lst (((papO p).flatMap oP).map tD)],st):=fun n=>by
      refine gc_ev (n:=n + 9) ?_ np
      have o1 : ∀ n : Nat,(rn fns (m + 5) (n + 1)).ev [some (.str (mk (papX p))),none,none] st (.lit (.str (PySem.Str.ofString "others"))) = some (tD wOthers,st):=fun n=>by rw [xOthers]; rfl
      rw [ev_k]
      simp only [stepEv,evs,s1,o1,Option.bind_some,call_k]
      exact pa
    simp only [stepEx,this,Option.bind_some]
    rfl)]
  generalize hT : ([some (.str (mk (papX p))),some (.tup [.lst ((papH p).map tD),.lst (((papO p).flatMap oP).map tD)]),none] : Sl) = T1
  have x1 : ∀ n : Nat,(rn fns (m + 5) (n + 5)).ev T1 st (.idx (.var 1) (.lit (.int 1))) = some (.lst (((papO p).flatMap oP).map tD),st):=fun n=>by rw [← hT]; rfl
  have t2 : T1.set 2 (some (.tup ((papO p).map oD))) = [some (.str (mk (papX p))),some (.tup [.lst ((papH p).map tD),.lst (((papO p).flatMap oP).map tD)]),some (.tup ((papO p).map oD))]:=by rw [← hT]; rfl
  rw [exs_cons (τ':=[some (.str (mk (papX p))),some (.tup [.lst ((papH p).map tD),.lst (((papO p).flatMap oP).map tD)]),some (.tup ((papO p).map oD))]) (s':=st) (by
    have : ∀ n : Nat,(rn fns (m + 5) (n + 10)).ev T1 st (.gc (.call 7 [(.idx (.var 1) (.lit (.int 1)))])) = some (.tup ((papO p).map oD),st):=fun n=>by
      refine gc_ev (n:=n + 9) ?_ (by rw [noLoc_tup]; exact oD_nl _)
      rw [ev_k]
      simp only [stepEv,evs,x1,Option.bind_some,call_k]
      exact po
    simp only [stepEx,this,Option.bind_some,setT]
    rw [if_pos (by rw [← hT]; exact (by decide : 2 < 3)),t2]
    rfl)]
  generalize hT2 : ([some (.str (mk (papX p))),some (.tup [.lst ((papH p).map tD),.lst (((papO p).flatMap oP).map tD)]),some (.tup ((papO p).map oD))] : Sl) = T2
  have x0 : ∀ n : Nat,(rn fns (m + 5) (n + 5)).ev T2 st (.idx (.var 1) (.lit (.int 0))) = some (.lst ((papH p).map tD),st):=fun n=>by rw [← hT2]; rfl
  have x2 : ∀ n : Nat,(rn fns (m + 5) (n + 1)).ev T2 st (.var 2) = some (.tup ((papO p).map oD),st):=fun n=>by rw [← hT2]; rfl
  have l1 : ∀ n : Nat,(rn fns (m + 5) (n + 5)).ev T2 st (.gc (.lst [(.lit (.str (PySem.Str.ofString "open")))])) = some (.lst ([wOpen].map tD),st):=fun n=>by
    refine gc_lit (n:=n + 3) ?_ (by simp) (nl_tD _)
    rw [xOpen]
    rfl
  have t1 : ∀ n : Nat,(rn fns (m + 5) (n + 10)).tst T2 st (.cmp .Eq (.idx (.var 1) (.lit (.int 0))) (.gc (.lst [(.lit (.str (PySem.Str.ofString "open")))]))) = some (papH p == [wOpen],st):=fun n=>by
    rw [tst_k]
    simp only [stepTst,x0,l1,Option.bind_some,cmpD,eq_ts,Option.map_some]
  cases p with
  | op os =>
    refine exs_ret ((stepEx_ite_t (st':=st) (by rw [t1]; rfl)).trans ?_)
    rw [ex_k]
    refine exs_ret ?_
    have o1 : ∀ n : Nat,(rn fns (m + 5) (n + 1)).ev T2 st (.lit (.str (PySem.Str.ofString "open"))) = some (tD wOpen,st):=fun n=>by rw [xOpen]; rfl
    simp only [stepEx]
    rw [ev_k]
    simp only [stepEv,evs,o1,x2,Option.bind_some]
    rfl
  | held c w ys os =>
    obtain ⟨h1,h2,h3,h4,h5,h6⟩:=h
    rw [exs_cons (τ':=T2) (s':=st) (by
      refine (stepEx_ite_f (st':=st) ?_).trans rfl
      rw [t1]
      have : (papH (.held c w ys os) == [wOpen]) = false:=by
        rw [beq_eq_false_iff_ne]
        intro z
        cases z
      rw [this])]
    have:=held_ok m st c w ys (.tup (os.map oD)) h1 h2 h3 (by omega) (by rw [noLoc_tup]; exact oD_nl _)
    refine exs_ret ?_
    simp only [stepEx]
    rw [ev_k]
    simp only [stepEv,evs,x0,x2,Option.bind_some,call_k]
    show Option.map _ (callD fns (m + 5) 9 [.lst ((wHeld::natD c::(wayP w++wYears::ys.map natD)).map tD),.tup (os.map oD)] st) = _
    rw [this]
    rfl
end K33
end
section
set_option linter.all false
set_option maxRecDepth 10000
set_option maxHeartbeats 4000000
namespace K33
open M
open PySem (Str)
theorem src_idx {c : CF} {n : Nat} {τ : Sl} {st : Store} {a b : E} {ds : List D} (h : (runK c n).ev τ st (.idx a b) = some (.tup ds,st)) : src (runK c n) τ st (.idx a b) = some (.tup ds,st):=by
  show ((runK c n).ev τ st (.idx a b)).bind _ = _
  rw [h]
  rfl
theorem comp_str {c : CF} {n : Nat} {τ : Sl} {st : Store} {it : E} (ps : List (D × List Nat)) (hit : src (runK c (n + 4)) τ st it = some (.tup (ps.map Prod.fst),st)) (hs : ∀ p ∈ ps,∀ S,bStr S [p.1] = some (tD p.2,S)) (hl : ps.length < 1000) :
    (runK c (n + 6)).ev τ st (.gc (.comp (.var 0) it none (.bcall .str [(.var 0)]) [none])) = some (.lst ((ps.map Prod.snd).map tD),st):=by
  have:=gc_comp (n:=n + 4) (τ:=τ) (st:=st) (it:=it) (elt:=.bcall .str [(.var 0)]) (sr:=[none]) (rest:=[]) (s:=.tup (ps.map Prod.fst)) ps Prod.fst (fun p=>tD p.2) hit (fun i=>rfl) (by simp [Src.size]) rfl (by omega) (fun _ _=>rfl) (fun p hp=>by
    simp only [ev_k,stepEv,evs,List.getElem?_cons_zero,Option.bind_some,bfun,hs p hp])
  rw [this,List.map_map]
  rfl
def oPr (o : Oth) : List (D × List Nat):=[(iD o.c,natD o.c),(tD o.w,o.w),(iD o.d,natD o.d)]
def wayPr : Way→List (D × List Nat)
  | .dip v c=>[(tD wDip,wDip),(iD v,natD v),(iD c,natD c)]
  | .ground=>[(tD wGround,wGround)]
theorem way_fst (w : Way) : wayD w = .tup ((wayPr w).map Prod.fst):=by cases w <;> rfl
theorem way_snd (w : Way) : (wayPr w).map Prod.snd = wayP w:=by cases w <;> rfl
theorem way_str {w : Way} (h : w.ok) : ∀ p ∈ wayPr w,∀ S,bStr S [p.1] = some (tD p.2,S):=by
  intro p hp S
  cases w with
  | ground=>rw [wayPr,List.mem_singleton] at hp; subst hp; rfl
  | dip v c =>
    simp only [wayPr,List.mem_cons,List.not_mem_nil,or_false] at hp
    rcases hp with rfl | rfl | rfl
    · rfl
    · exact h.1.str S
    · exact h.2.str S
theorem o_str {o : Oth} (h : o.ok) : ∀ p ∈ oPr o,∀ S,bStr S [p.1] = some (tD p.2,S):=by
  intro p hp S
  simp only [oPr,List.mem_cons,List.not_mem_nil,or_false] at hp
  rcases hp with rfl | rfl | rfl
  · exact h.1.str S
  · rfl
  · exact h.2.1.str S
theorem y_str {ys : List Nat} (h : ∀ y ∈ ys,nSm y) : ∀ p ∈ ys.map fun y=>(iD y,natD y),∀ S,bStr S [p.1] = some (tD p.2,S):=by
  intro p hp S
  obtain ⟨y,hy,rfl⟩:=List.mem_map.mp hp
  exact (h y hy).str S
theorem seq_mid (A r : Store) (w : Bool) (ds : List D) : seqAt (A++.lst w ds::r) (.loc A.length) = some ds:=by simp [seqAt,listAt]
theorem wat_mid (A r : Store) (ds : List D) : wlistAt (A++.lst true ds::r) A.length = some ds:=by simp [wlistAt]
theorem set_mid (A r : Store) (c c' : Cell) : (A++c::r).set A.length c' = A++c'::r:=by
  rw [List.set_append_right _ _ (Nat.le_refl _)]; simp
theorem sothers_ok (m : Nat) (st : Store) (os : List Oth) (h : ∀ o ∈ os,o.ok) (hl : os.length < 100) : callD fns (m + 1) 3 [.tup (os.map oD)] st = some (.loc st.length,st++[.lst true ((wOthers::os.flatMap oP).map tD)]):=by
  refine call_of (0 + 20) (F:=f_shown_others) rfl rfl rfl ?_
  show exs (stepEx (rn fns m (0 + 20))) b_shown_others [some (.tup (os.map oD)),none,none] st = _
  unfold b_shown_others
  rw [exs_cons (τ':=[some (.tup (os.map oD)),some (.loc st.length),none]) (s':=st++[.lst true ([wOthers].map tD)]) (by rw [xOthers]; rfl)]
  obtain ⟨τ',S',e,hP⟩:=loop_src (s:=.tup (os.map oD)) (ds:=os.map oD) (τ:=[some (.tup (os.map oD)),some (.loc st.length),none]) (st:=st++[.lst true ([wOthers].map tD)])
    (f:=fun τ st d=>(setT (.var 2) d τ).bind fun τ'=>(rn fns m (0 + 20)).ex τ' st [.expr (.meth (.var 1) .extend [(.gc (.comp (.var 0) (.var 2) none (.bcall .str [(.var 0)]) [none]))])])
    (fun i τ S=>∃ o,τ = [some (.tup (os.map oD)),some (.loc st.length),o]∧S = st++[.lst true ((wOthers::(os.take i).flatMap oP).map tD)]) (fun _ _=>False) ⟨none,rfl,rfl⟩ rfl (fun _ _ _ _=>rfl) (by
      rintro i τ S d hd ⟨o0,rfl,rfl⟩
      rw [List.getElem?_map] at hd
      cases ho : os[i]? with
      | none=>rw [ho] at hd; cases hd
      | some o =>
        rw [ho] at hd
        cases hd
        have hok:=h o (List.mem_of_getElem? ho)
        generalize hX : (wOthers::(os.take i).flatMap oP).map tD = X
        have hXl : X.length ≤ 1000:=by
          rw [← hX,List.length_map,List.length_cons,flat_len,List.length_take]
          omega
        refine .inl ⟨[some (.tup (os.map oD)),some (.loc st.length),some (oD o)],st++[.lst true (X++(oP o).map tD)],.inl ?_,_,rfl,?_⟩
        · have e1 : ∀ n : Nat,(rn fns m (n + 10)).ev [some (.tup (os.map oD)),some (.loc st.length),some (oD o)] (st++[.lst true X]) (.gc (.comp (.var 0) (.var 2) none (.bcall .str [(.var 0)]) [none])) = some (.lst ((oP o).map tD),st++[.lst true X]):=fun n=>by
            have:=comp_str (c:=callD fns m) (n:=n + 4) (τ:=[some (.tup (os.map oD)),some (.loc st.length),some (oD o)]) (st:=st++[.lst true X]) (it:=.var 2) (oPr o) rfl (o_str hok) (by simp [oPr])
            exact this
          have v1 : ∀ n : Nat,(rn fns m (n + 1)).ev [some (.tup (os.map oD)),some (.loc st.length),some (oD o)] (st++[.lst true X]) (.var 1) = some (.loc st.length,st++[.lst true X]):=fun n=>rfl
          have my : mty (st++[.lst true X]) .extend (.loc st.length) = true:=by
            show (true && (seqAt (st++[.lst true X]) (.loc st.length)).isSome) = true
            rw [seq_mid]
            rfl
          show (rn fns m (0 + 20)).ex [some (.tup (os.map oD)),some (.loc st.length),some (oD o)] (st++[.lst true X]) _ = _
          rw [ex_k,exs_cons (τ':=[some (.tup (os.map oD)),some (.loc st.length),some (oD o)]) (s':=st++[.lst true (X++(oP o).map tD)]) (by
            simp only [stepEx]
            rw [ev_k]
            simp only [stepEv,v1,Option.bind_some,my,if_true,evs,e1,mfun,mExtend,wat_mid,seqAt,set_mid]
            rw [if_pos (by simp only [List.length_map,oP,List.length_cons,List.length_nil]; unfold lim; omega)]
            rfl)]
          rfl
        · rw [← hX,← List.map_append,List.take_add_one,ho]
          simp)
  rcases hP with ⟨o,rfl,rfl⟩ | z
  · rw [List.length_map,List.take_length] at e
    rw [exs_cons (τ':=[some (.tup (os.map oD)),some (.loc st.length),o]) (s':=st++[.lst true ((wOthers::os.flatMap oP).map tD)]) (by
      simp only [stepEx]
      rw [src_tup rfl]
      exact e)]
    exact exs_ret rfl
  · exact z.elim
theorem shown_ok (m : Nat) (st : Store) (p : Pap) (h : p.ok) : callD fns (m + 2) 4 [papD p] st = some (.str (mk (papX p)),st):=by
  refine call_of (0 + 30) (F:=f_shown_paper) rfl rfl rfl ?_
  show exs (stepEx (rn fns (m + 1) (0 + 30))) b_shown_paper [some (papD p),none,none] st = _
  unfold b_shown_paper
  have jn : ∀ S d,seqAt S d = some ((papP p).map tD)→mJoin S (.str (mk [32])) [d] = some (.str (mk (papX p)),S):=fun S d hd=>join_ok h S d hd
  have my : ∀ S z,mty S .join (.str z) = true:=fun _ _=>rfl
  have so : ∀ (T : Sl) (i : Int) (os : List Oth),(∀ o ∈ os,o.ok)→os.length < 100→(∀ n : Nat,(rn fns (m + 1) (n + 3)).ev T st (.idx (.var 0) (.lit (.int i))) = some (.tup (os.map oD),st))→∀ n : Nat,(rn fns (m + 1) (n + 6)).ev T st (.gc (.call 3 [(.idx (.var 0) (.lit (.int i)))])) = some (.lst ((wOthers::os.flatMap oP).map tD),st):=fun T i os ho hl hx n=>by
    refine gc_evL (n:=n + 5) ?_ (nl_tD _)
    rw [ev_k]
    simp only [stepEv,evs,hx,Option.bind_some,call_k]
    exact sothers_ok m st os ho hl
  cases p with
  | op os =>
    have T1 : ∀ n : Nat,(rn fns (m + 1) (n + 6)).tst [some (papD (.op os)),none,none] st (.cmp .Eq (.idx (.var 0) (.lit (.int 0))) (.lit (.str (PySem.Str.ofString "open")))) = some (true,st):=fun n=>by
      have x0 : ∀ S,idxD S (papD (.op os)) (.int 0) = some (.str (mk wOpen)):=fun S=>rfl
      simp only [tst_k,stepTst,ev_k,stepEv,List.getElem?_cons_zero,Option.bind_some,x0,Option.map_some,xOpen,cmpD,eqD_ss,beq_self_eq_true]
    refine exs_ret ((stepEx_ite_t (st':=st) (T1 _)).trans ?_)
    rw [ex_k]
    have l1 : ∀ n : Nat,(rn fns (m + 1) (n + 6)).ev [some (papD (.op os)),none,none] st (.gc (.lst [(.lit (.str (PySem.Str.ofString "open")))])) = some (.lst ([wOpen].map tD),st):=fun n=>by
      refine gc_lit (n:=n + 4) ?_ (by simp) (nl_tD _)
      rw [xOpen]
      rfl
    have s1:=so [some (papD (.op os)),none,none] 1 os h.1 (by have:=h.2; omega) (fun n=>rfl)
    have a1 : ∀ n : Nat,(rn fns (m + 1) (n + 8)).ev [some (papD (.op os)),none,none] st (.gc (.bin .Add (.gc (.lst [(.lit (.str (PySem.Str.ofString "open")))])) (.gc (.call 3 [(.idx (.var 0) (.lit (.int 1)))])))) = some (.lst ((papP (.op os)).map tD),st):=fun n=>by
      have:=gc_add (n:=n + 6) (l1 _) (s1 _) rfl rfl (by have:=h.2; simp only [List.length_map,List.length_cons,flat_len,List.length_nil]; omega) (by rw [← List.map_append]; exact nl_tD _)
      rw [← List.map_append] at this
      exact this
    have b1 : ∀ n : Nat,(rn fns (m + 1) (n + 2)).ev [some (papD (.op os)),none,none] st (.lit (.str (PySem.Str.ofString " "))) = some (.str (mk [32]),st):=fun n=>by rw [xBlank]; rfl
    refine exs_ret ?_
    simp only [stepEx]
    rw [ev_k]
    simp only [stepEv,b1,Option.bind_some,my,if_true,evs,a1,mfun,jn _ (.lst ((papP (.op os)).map tD)) rfl,Option.map_some]
  | held c w ys os =>
    obtain ⟨h1,h2,h3,h4,h5,h6⟩:=h
    rw [exs_cons (τ':=[some (papD (.held c w ys os)),none,none]) (s':=st) (by
      refine (stepEx_ite_f (st':=st) ?_).trans rfl
      have x0 : ∀ S,idxD S (papD (.held c w ys os)) (.int 0) = some (.str (mk wHeld)):=fun S=>rfl
      simp only [tst_k,stepTst,ev_k,stepEv,List.getElem?_cons_zero,Option.bind_some,x0,Option.map_some,xOpen,cmpD,eqD_ss,mk_beq]
      rfl)]
    rw [exs_cons (τ':=[some (papD (.held c w ys os)),some (.lst ((wayP w).map tD)),none]) (s':=st) (by
      have:=comp_str (c:=callD fns (m + 1)) (n:=0 + 24) (τ:=[some (papD (.held c w ys os)),none,none]) (st:=st) (it:=.idx (.var 0) (.lit (.int 2))) (wayPr w) (src_idx (by rw [← way_fst]; rfl)) (way_str h2) (by cases w <;> simp [wayPr])
      rw [way_snd] at this
      simp only [stepEx]
      rw [this]
      rfl)]
    rw [exs_cons (τ':=[some (papD (.held c w ys os)),some (.lst ((wayP w).map tD)),some (.lst ((ys.map natD).map tD))]) (s':=st) (by
      have:=comp_str (c:=callD fns (m + 1)) (n:=0 + 24) (τ:=[some (papD (.held c w ys os)),some (.lst ((wayP w).map tD)),none]) (st:=st) (it:=.idx (.var 0) (.lit (.int 3))) (ys.map fun y=>(iD y,natD y)) (src_idx (by rw [List.map_map]; rfl)) (y_str h3) (by rw [List.length_map]; omega)
      rw [show (ys.map fun y=>(iD y,natD y)).map Prod.snd = ys.map natD by rw [List.map_map]; rfl] at this
      simp only [stepEx]
      rw [this]
      rfl)]
    generalize hT : ([some (papD (.held c w ys os)),some (.lst ((wayP w).map tD)),some (.lst ((ys.map natD).map tD))] : Sl) = T
    have s1:=so T 4 os h5 (by omega) (fun n=>by rw [← hT]; rfl)
    have v1 : ∀ n : Nat,(rn fns (m + 1) (n + 1)).ev T st (.var 1) = some (.lst ((wayP w).map tD),st):=fun n=>by rw [← hT]; rfl
    have v2 : ∀ n : Nat,(rn fns (m + 1) (n + 1)).ev T st (.var 2) = some (.lst ((ys.map natD).map tD),st):=fun n=>by rw [← hT]; rfl
    have i1 : ∀ n : Nat,(rn fns (m + 1) (n + 3)).ev T st (.idx (.var 0) (.lit (.int 1))) = some (iD c,st):=fun n=>by rw [← hT]; rfl
    have l1 : ∀ n : Nat,(rn fns (m + 1) (n + 8)).ev T st (.gc (.lst [(.lit (.str (PySem.Str.ofString "held"))),(.bcall .str [(.idx (.var 0) (.lit (.int 1)))])])) = some (.lst ([wHeld,natD c].map tD),st):=fun n=>by
      refine gc_lit (n:=n + 6) ?_ (by simp) (nl_tD _)
      rw [xHeld]
      have : ∀ n : Nat,(rn fns (m + 1) (n + 5)).ev T st (.bcall .str [(.idx (.var 0) (.lit (.int 1)))]) = some (tD (natD c),st):=fun n=>by
        rw [ev_k]
        simp only [stepEv,evs,i1,Option.bind_some,bfun,h1.str]
      have e0 : ∀ n : Nat,(rn fns (m + 1) (n + 1)).ev T st (.lit (.str (mk wHeld))) = some (tD wHeld,st):=fun n=>rfl
      simp only [evs,e0,this,Option.bind_some]
      rfl
    have l2 : ∀ n : Nat,(rn fns (m + 1) (n + 6)).ev T st (.gc (.lst [(.lit (.str (PySem.Str.ofString "years")))])) = some (.lst ([wYears].map tD),st):=fun n=>by
      refine gc_lit (n:=n + 4) ?_ (by simp) (nl_tD _)
      rw [xYears]
      rfl
    have wl : (wayP w).length ≤ 3:=by cases w <;> simp [wayP]
    have a1 : ∀ n : Nat,(rn fns (m + 1) (n + 10)).ev T st _ = some (.lst (([wHeld,natD c]++wayP w).map tD),st):=fun n=>by
      have:=gc_add (n:=n + 8) (l1 _) (v1 _) rfl rfl (by simp; omega) (by rw [← List.map_append]; exact nl_tD _)
      rw [← List.map_append] at this
      exact this
    have a2 : ∀ n : Nat,(rn fns (m + 1) (n + 12)).ev T st _ = some (.lst (([wHeld,natD c]++wayP w++[wYears]).map tD),st):=fun n=>by
      have:=gc_add (n:=n + 10) (a1 _) (l2 _) rfl rfl (by simp; omega) (by rw [← List.map_append]; exact nl_tD _)
      rw [← List.map_append] at this
      exact this
    have a3 : ∀ n : Nat,(rn fns (m + 1) (n + 14)).ev T st _ = some (.lst (([wHeld,natD c]++wayP w++[wYears]++ys.map natD).map tD),st):=fun n=>by
      have:=gc_add (n:=n + 12) (a2 _) (v2 _) rfl rfl (by simp; omega) (by rw [← List.map_append]; exact nl_tD _)
      rw [← List.map_append] at this
      exact this
    have a4 : ∀ n : Nat,(rn fns (m + 1) (n + 16)).ev T st _ = some (.lst (([wHeld,natD c]++wayP w++[wYears]++ys.map natD++wOthers::os.flatMap oP).map tD),st):=fun n=>by
      have:=gc_add (n:=n + 14) (a3 _) (s1 _) rfl rfl (by have:=flat_len os; simp only [List.length_map,List.length_append,List.length_cons,List.length_nil]; omega) (by rw [← List.map_append]; exact nl_tD _)
      rw [← List.map_append] at this
      exact this
    have eP : [wHeld,natD c]++wayP w++[wYears]++ys.map natD++wOthers::os.flatMap oP = papP (.held c w ys os):=by
      simp [papP,papH,papO]
    rw [eP] at a4
    have b1 : ∀ n : Nat,(rn fns (m + 1) (n + 2)).ev T st (.lit (.str (PySem.Str.ofString " "))) = some (.str (mk [32]),st):=fun n=>by rw [xBlank]; rfl
    refine exs_ret ?_
    simp only [stepEx]
    rw [ev_k]
    simp only [stepEv,b1,Option.bind_some,my,if_true,evs,a4,mfun,jn _ (.lst ((papP (.held c w ys os)).map tD)) rfl,Option.map_some]
end K33
end
set_option linter.all false
set_option maxRecDepth 10000
set_option maxHeartbeats 4000000
namespace K33
open M
open PySem (Str)
theorem seq_end (A : Store) (w : Bool) (ds : List D) : seqAt (A++[.lst w ds]) (.loc A.length) = some ds:=seq_mid A [] w ds
theorem add_new {c : CF} {n : Nat} {τ : Sl} {S : Store} {a b : E} {x : D} {xs ys : List D} (ha : (runK c n).ev τ S a = some (x,S)) (hb : (runK c n).ev τ S b = some (.lst ys,S)) (hx : seqAt S x = some xs) (hl : xs.length + ys.length ≤ 1000000) :
    (runK c (n + 1)).ev τ S (.bin .Add a b) = some (.loc S.length,S++[.lst true (xs++ys)]):=by
  show ((runK c n).ev τ S a).bind _ = _
  rw [ha]
  simp only [Option.bind_some,hb]
  have e : binop S .Add x (.lst ys) = (seqAt S x).bind fun x=>(seqAt S (.lst ys)).bind fun y=>if lim < x.length + y.length then none else some (alloc S (.lst true (x++y))):=by
    cases x with
    | loc l=>rfl
    | lst l=>rfl
    | _=>cases hx
  rw [e,hx]
  simp only [Option.bind_some,seqAt]
  rw [if_neg (by unfold lim; omega)]
  rfl
theorem gc_add' {c : CF} {n : Nat} {τ : Sl} {S : Store} {a b : E} {x : D} {xs ys : List D} (ha : (runK c n).ev τ S a = some (x,S)) (hb : (runK c n).ev τ S b = some (.lst ys,S)) (hx : seqAt S x = some xs) (hl : xs.length + ys.length ≤ 1000000) (hd : noLocs (xs++ys) = true) :
    (runK c (n + 2)).ev τ S (.gc (.bin .Add a b)) = some (.lst (xs++ys),S):=gc_evL (add_new ha hb hx hl) hd
def fT (d : D) (l : Nat) (a b e : Option D) : Sl:=[some d,some (.loc l),a,b,e]
theorem flat_tail (m : Nat) (st A : Store) (p : Pap) (h : p.ok) (os : List Oth) (hos : papO p = os) :
    ∃ r,exs (stepEx (rn fns m (0 + 30))) [
  .expr (.meth (.var 1) .append [(.lit (.str (PySem.Str.ofString "others")))]),
  .forr (.tup [2,3,4]) (.idx (.var 0) (.neg (.lit (.int 1)))) [.set (.var 1) (.bin .Add (.var 1) (.gc (.lst [(.bcall .str [(.var 2)]),(.var 3),(.bcall .str [(.var 4)])])))],
  .ret (.meth (.lit (.str (PySem.Str.ofString " "))) .join [(.var 1)])] (fT (papD p) (st++A).length none none none) (st++A++[.lst true ((papH p).map tD)]) = some (.rt (.str (mk (papX p))),st++r):=by
  have hok : (∀ o ∈ os,o.ok)∧os.length < 20:=by
    subst hos
    cases p with
    | op os=>exact h
    | held c w ys os=>exact ⟨h.2.2.2.2.1,h.2.2.2.2.2⟩
  have hHl : (papH p).length ≤ 200:=by
    have:=pap_len h
    rw [papP,List.length_append] at this
    omega
  generalize hH : papH p = H0 at hHl
  obtain ⟨B,hB⟩ : ∃ B,B = st++A:=⟨_,rfl⟩
  rw [← hB]
  rw [exs_cons (τ':=fT (papD p) B.length none none none) (s':=B++[.lst true ((H0++[wOthers]).map tD)]) (by
    have my : mty (B++[.lst true (H0.map tD)]) .append (.loc B.length) = true:=by
      show (true && (seqAt (B++[.lst true (H0.map tD)]) (.loc B.length)).isSome) = true
      rw [seq_end]
      rfl
    have v1 : ∀ n : Nat,(rn fns m (n + 1)).ev (fT (papD p) B.length none none none) (B++[.lst true (H0.map tD)]) (.var 1) = some (.loc B.length,B++[.lst true (H0.map tD)]):=fun n=>rfl
    have o1 : ∀ n : Nat,(rn fns m (n + 1)).ev (fT (papD p) B.length none none none) (B++[.lst true (H0.map tD)]) (.lit (.str (PySem.Str.ofString "others"))) = some (tD wOthers,B++[.lst true (H0.map tD)]):=fun n=>by rw [xOthers]; rfl
    simp only [stepEx]
    rw [ev_k]
    simp only [stepEv,v1,Option.bind_some,my,if_true,evs,o1,mfun,mAppend,wat_mid,set_mid]
    rw [if_pos (by rw [List.length_map]; unfold lim; omega),List.map_append]
    rfl)]
  have hsrc : ∀ S,src (rn fns m (0 + 30)) (fT (papD p) B.length none none none) S (.idx (.var 0) (.neg (.lit (.int 1)))) = some (.tup (os.map oD),S):=fun S=>by
    subst hos
    cases p <;> rfl
  obtain ⟨τ',S',e,hP⟩:=loop_src (s:=.tup (os.map oD)) (ds:=os.map oD) (τ:=fT (papD p) B.length none none none) (st:=B++[.lst true ((H0++[wOthers]).map tD)])
    (f:=fun τ st d=>(setT (.tup [2,3,4]) d τ).bind fun τ'=>(rn fns m (0 + 30)).ex τ' st [.set (.var 1) (.bin .Add (.var 1) (.gc (.lst [(.bcall .str [(.var 2)]),(.var 3),(.bcall .str [(.var 4)])])))])
    (fun i τ S=>∃ (R : Store) (a b c : Option D),τ = fT (papD p) (st++R).length a b c∧S = st++R++[.lst true ((H0++wOthers::(os.take i).flatMap oP).map tD)]) (fun _ _=>False) ⟨A,none,none,none,by rw [hB],by rw [hB]; rfl⟩ rfl (fun _ _ _ _=>rfl) (by
      rintro i τ S d hd ⟨R,a,b,c,rfl,rfl⟩
      rw [List.getElem?_map] at hd
      cases ho : os[i]? with
      | none=>rw [ho] at hd; cases hd
      | some o =>
        rw [ho] at hd
        cases hd
        have oo:=hok.1 o (List.mem_of_getElem? ho)
        generalize hX : (H0++wOthers::(os.take i).flatMap oP).map tD = X
        have hXl : X.length ≤ 1000:=by
          rw [← hX,List.length_map,List.length_append,List.length_cons,flat_len,List.length_take]
          omega
        obtain ⟨C,hC⟩ : ∃ C,C = st++R++[.lst true X]:=⟨_,rfl⟩
        refine .inl ⟨fT (papD p) C.length (some (iD o.c)) (some (tD o.w)) (some (iD o.d)),C++[.lst true (X++(oP o).map tD)],.inl ?_,R++[.lst true X],_,_,_,by rw [hC,List.append_assoc],?_⟩
        · show (rn fns m (0 + 30)).ex (fT (papD p) (st++R).length (some (iD o.c)) (some (tD o.w)) (some (iD o.d))) (st++R++[.lst true X]) _ = _
          have hx : seqAt C (.loc (st++R).length) = some X:=by rw [hC]; exact seq_end _ _ _
          rw [← hC]
          generalize hT : fT (papD p) (st++R).length (some (iD o.c)) (some (tD o.w)) (some (iD o.d)) = T
          have v1 : ∀ n : Nat,(rn fns m (n + 1)).ev T C (.var 1) = some (.loc (st++R).length,C):=fun n=>by rw [← hT]; rfl
          have v2 : ∀ n : Nat,(rn fns m (n + 3)).ev T C (.bcall .str [(.var 2)]) = some (tD (natD o.c),C):=fun n=>by
            have : ∀ n : Nat,(rn fns m (n + 1)).ev T C (.var 2) = some (iD o.c,C):=fun n=>by rw [← hT]; rfl
            rw [ev_k]
            simp only [stepEv,evs,this,Option.bind_some,bfun,oo.1.str]
          have v3 : ∀ n : Nat,(rn fns m (n + 1)).ev T C (.var 3) = some (tD o.w,C):=fun n=>by rw [← hT]; rfl
          have v4 : ∀ n : Nat,(rn fns m (n + 3)).ev T C (.bcall .str [(.var 4)]) = some (tD (natD o.d),C):=fun n=>by
            have : ∀ n : Nat,(rn fns m (n + 1)).ev T C (.var 4) = some (iD o.d,C):=fun n=>by rw [← hT]; rfl
            rw [ev_k]
            simp only [stepEv,evs,this,Option.bind_some,bfun,oo.2.1.str]
          have l1 : ∀ n : Nat,(rn fns m (n + 6)).ev T C (.gc (.lst [(.bcall .str [(.var 2)]),(.var 3),(.bcall .str [(.var 4)])])) = some (.lst ((oP o).map tD),C):=fun n=>by
            refine gc_lit (n:=n + 4) ?_ (by simp [oP]) (nl_tD _)
            simp only [evs,v2,v3,v4,Option.bind_some]
            rfl
          have a1:=add_new (c:=callD fns m) (n:=0 + 27) (v1 _) (l1 _) hx (by simp only [List.length_map,oP,List.length_cons,List.length_nil]; omega)
          rw [ex_k,exs_cons (τ':=fT (papD p) C.length (some (iD o.c)) (some (tD o.w)) (some (iD o.d))) (s':=C++[.lst true (X++(oP o).map tD)]) (by
            simp only [stepEx]
            have : (rn fns m (0 + 29)).ev T C (.bin .Add (.var 1) (.gc (.lst [(.bcall .str [(.var 2)]),(.var 3),(.bcall .str [(.var 4)])]))) = some (.loc C.length,C++[.lst true (X++(oP o).map tD)]):=ev_up a1 (by omega)
            rw [this,← hT]
            rfl)]
          rfl
        · rw [hC,← hX,← List.map_append,List.take_add_one,ho]
          simp)
  rcases hP with ⟨R,a,b,c,rfl,rfl⟩ | z
  · rw [List.length_map,List.take_length] at e
    rw [exs_cons (τ':=fT (papD p) (st++R).length a b c) (s':=st++R++[.lst true ((H0++wOthers::os.flatMap oP).map tD)]) (by
      simp only [stepEx]
      rw [hsrc]
      exact e)]
    refine ⟨R++[.lst true ((H0++wOthers::os.flatMap oP).map tD)],exs_ret ?_⟩
    have eP : H0++wOthers::os.flatMap oP = papP p:=by rw [papP,hH,hos]
    rw [eP]
    have j1:=join_ok h (st++R++[.lst true ((papP p).map tD)]) (.loc (st++R).length) (seq_end _ _ _)
    have b1 : ∀ S,∀ n : Nat,(rn fns m (n + 2)).ev (fT (papD p) (st++R).length a b c) S (.lit (.str (PySem.Str.ofString " "))) = some (.str (mk [32]),S):=fun S n=>by rw [xBlank]; rfl
    have v1 : ∀ S,∀ n : Nat,(rn fns m (n + 1)).ev (fT (papD p) (st++R).length a b c) S (.var 1) = some (.loc (st++R).length,S):=fun S n=>rfl
    have my : ∀ S z,mty S .join (.str z) = true:=fun _ _=>rfl
    simp only [stepEx]
    rw [ev_k]
    simp only [stepEv,b1,Option.bind_some,my,if_true,evs,v1,mfun,j1,Option.map_some]
    rw [List.append_assoc]
  · exact z.elim
theorem flat_ok (m : Nat) (st : Store) (p : Pap) (h : p.ok) : ∃ r,callD fns (m + 1) 14 [papD p] st = some (.str (mk (papX p)),st++r):=by
  suffices hx : ∃ r,exs (stepEx (rn fns m (0 + 30))) b_law_flat_paper [some (papD p),none,none,none,none] st = some (.rt (.str (mk (papX p))),st++r) by
    obtain ⟨r,e⟩:=hx
    exact ⟨r,call_of (0 + 30) (F:=f_law_flat_paper) rfl rfl rfl e⟩
  unfold b_law_flat_paper
  cases p with
  | op os =>
    rw [exs_cons (τ':=fT (papD (.op os)) st.length none none none) (s':=st++[.lst true ([wOpen].map tD)]) rfl]
    rw [exs_cons (τ':=fT (papD (.op os)) st.length none none none) (s':=st++[.lst true ([wOpen].map tD)]) (by
      refine (stepEx_ite_f (st':=st++[.lst true ([wOpen].map tD)]) ?_).trans rfl
      have x0 : ∀ S,idxD S (papD (.op os)) (.int 0) = some (.str (mk wOpen)):=fun S=>rfl
      simp only [tst_k,stepTst,ev_k,stepEv,fT,List.getElem?_cons_zero,Option.bind_some,x0,Option.map_some,xHeld,cmpD,eqD_ss,mk_beq]
      rfl)]
    have:=flat_tail m st [] (.op os) h os rfl
    rw [List.append_nil] at this
    exact this
  | held c w ys os =>
    have hh:=h
    obtain ⟨h1,h2,h3,h4,h5,h6⟩:=hh
    have wl : (wayP w).length ≤ 3:=by cases w <;> simp [wayP]
    rw [exs_cons (τ':=fT (papD (.held c w ys os)) st.length none none none) (s':=st++[.lst true ([wHeld].map tD)]) rfl]
    generalize hD : papD (.held c w ys os) = d
    have i0 : ∀ S,idxD S d (.int 0) = some (.str (mk wHeld)):=fun S=>by rw [← hD]; rfl
    have i1 : ∀ S,idxD S d (.int 1) = some (iD c):=fun S=>by rw [← hD]; rfl
    have i2 : ∀ S,idxD S d (.int 2) = some (wayD w):=fun S=>by rw [← hD]; rfl
    have i3 : ∀ S,idxD S d (.int 3) = some (.tup (ys.map iD)):=fun S=>by rw [← hD]; rfl
    have cs2 : ∀ (S : Store) (l : Nat) (n : Nat),(rn fns m (n + 10)).ev (fT d l none none none) S (.gc (.comp (.var 0) (.idx (.var 0) (.lit (.int 2))) none (.bcall .str [(.var 0)]) [none])) = some (.lst ((wayP w).map tD),S):=fun S l n=>by
      have:=comp_str (c:=callD fns m) (n:=n + 4) (τ:=fT d l none none none) (st:=S) (it:=.idx (.var 0) (.lit (.int 2))) (wayPr w) (src_idx (by rw [← way_fst]; simp only [ev_k,stepEv,fT,List.getElem?_cons_zero,Option.bind_some,i2,Option.map_some])) (way_str h2) (by cases w <;> simp [wayPr])
      rw [way_snd] at this
      exact this
    have cs3 : ∀ (S : Store) (l : Nat) (n : Nat),(rn fns m (n + 10)).ev (fT d l none none none) S (.gc (.comp (.var 0) (.idx (.var 0) (.lit (.int 3))) none (.bcall .str [(.var 0)]) [none])) = some (.lst ((ys.map natD).map tD),S):=fun S l n=>by
      have:=comp_str (c:=callD fns m) (n:=n + 4) (τ:=fT d l none none none) (st:=S) (it:=.idx (.var 0) (.lit (.int 3))) (ys.map fun y=>(iD y,natD y)) (src_idx (by
        rw [show (ys.map fun y=>(iD y,natD y)).map Prod.fst = ys.map iD by rw [List.map_map]; rfl]
        simp only [ev_k,stepEv,fT,List.getElem?_cons_zero,Option.bind_some,i3,Option.map_some])) (y_str h3) (by rw [List.length_map]; omega)
      rw [show (ys.map fun y=>(iD y,natD y)).map Prod.snd = ys.map natD by rw [List.map_map]; rfl] at this
      exact this
    have l1 : ∀ (S : Store) (l : Nat) (n : Nat),(rn fns m (n + 8)).ev (fT d l none none none) S (.gc (.lst [(.bcall .str [(.idx (.var 0) (.lit (.int 1)))])])) = some (.lst ([natD c].map tD),S):=fun S l n=>by
      refine gc_lit (n:=n + 6) ?_ (by simp) (nl_tD _)
      simp only [evs,ev_k,stepEv,fT,List.getElem?_cons_zero,Option.bind_some,i1,Option.map_some,bfun,h1.str]
      rfl
    have l2 : ∀ (S : Store) (l : Nat) (n : Nat),(rn fns m (n + 8)).ev (fT d l none none none) S (.gc (.lst [(.lit (.str (PySem.Str.ofString "years")))])) = some (.lst ([wYears].map tD),S):=fun S l n=>by
      refine gc_lit (n:=n + 6) ?_ (by simp) (nl_tD _)
      rw [xYears]
      rfl
    have v1 : ∀ (S : Store) (l : Nat) (n : Nat),(rn fns m (n + 1)).ev (fT d l none none none) S (.var 1) = some (.loc l,S):=fun S l n=>rfl
    obtain ⟨S1,hS1⟩ : ∃ S1,S1 = st++[.lst true ([wHeld].map tD)]:=⟨_,rfl⟩
    have q1 : seqAt S1 (.loc st.length) = some ([wHeld].map tD):=by rw [hS1]; exact seq_end _ _ _
    obtain ⟨S2,hS2⟩ : ∃ S2,S2 = S1++[.lst true (([wHeld]++[natD c]++wayP w).map tD)]:=⟨_,rfl⟩
    have q2 : seqAt S2 (.loc S1.length) = some (([wHeld]++[natD c]++wayP w).map tD):=by rw [hS2]; exact seq_end _ _ _
    have a1 : ∀ n : Nat,(rn fns m (n + 10)).ev (fT d st.length none none none) S1 (.gc (.bin .Add (.var 1) (.gc (.lst [(.bcall .str [(.idx (.var 0) (.lit (.int 1)))])])))) = some (.lst (([wHeld]++[natD c]).map tD),S1):=fun n=>by
      have:=gc_add' (c:=callD fns m) (n:=n + 8) (v1 S1 st.length _) (l1 S1 st.length _) q1 (by simp) (by rw [← List.map_append]; exact nl_tD _)
      rw [← List.map_append] at this
      exact this
    have b1:=fun n : Nat=>add_new (c:=callD fns m) (n:=n + 10) (a1 n) (cs2 S1 st.length n) rfl (by simp; omega)
    have a2 : ∀ n : Nat,(rn fns m (n + 10)).ev (fT d S1.length none none none) S2 (.gc (.bin .Add (.var 1) (.gc (.lst [(.lit (.str (PySem.Str.ofString "years")))])))) = some (.lst (([wHeld]++[natD c]++wayP w++[wYears]).map tD),S2):=fun n=>by
      have:=gc_add' (c:=callD fns m) (n:=n + 8) (v1 S2 S1.length _) (l2 S2 S1.length _) q2 (by simp; omega) (by rw [← List.map_append]; exact nl_tD _)
      rw [← List.map_append] at this
      exact this
    have b2:=fun n : Nat=>add_new (c:=callD fns m) (n:=n + 10) (a2 n) (cs3 S2 S1.length n) rfl (by simp; omega)
    have eH : [wHeld]++[natD c]++wayP w++[wYears]++ys.map natD = papH (.held c w ys os):=by simp [papH]
    rw [← hS1]
    rw [exs_cons (τ':=fT d S2.length none none none) (s':=S2++[.lst true ((papH (.held c w ys os)).map tD)]) (by
      refine (stepEx_ite_t (st':=S1) ?_).trans ?_
      · simp only [tst_k,stepTst,ev_k,stepEv,fT,List.getElem?_cons_zero,Option.bind_some,i0,Option.map_some,xHeld,cmpD,eqD_ss,beq_self_eq_true]
      rw [ex_k]
      rw [exs_cons (τ':=fT d S1.length none none none) (s':=S2) (by
        simp only [stepEx]
        have:=b1 18
        rw [← List.map_append,← hS2] at this
        have t : (runK (callD fns m) 29).ev _ _ _ = _:=this
        rw [t]
        rfl)]
      rw [exs_cons (τ':=fT d S2.length none none none) (s':=S2++[.lst true ((papH (.held c w ys os)).map tD)]) (by
        simp only [stepEx]
        have:=b2 18
        rw [← List.map_append,eH] at this
        have t : (runK (callD fns m) 29).ev _ _ _ = _:=this
        rw [t]
        rfl)]
      rfl)]
    have:=flat_tail m st [.lst true ([wHeld].map tD),.lst true (([wHeld]++[natD c]++wayP w).map tD)] (.held c w ys os) h os rfl
    rw [show st++[.lst true ([wHeld].map tD),.lst true (([wHeld]++[natD c]++wayP w).map tD)] = S2 by rw [hS2,hS1]; simp only [List.append_assoc,List.cons_append,List.nil_append],hD] at this
    exact this
end K33
section
set_option linter.all false
set_option maxRecDepth 10000
set_option maxHeartbeats 4000000
namespace K33
open M
open PySem (Str)
section
variable {m : Nat} {ns : List Int} (hn : ns.length ≤ 63)
def sD (ns : List Int) : D:=.lst (ns.map D.int)
include hn
theorem drw (hm : 1 ≤ m) (st : Store) (k j many : Int) (hj : 0 ≤ j) (hj2 : j < 100000) (hm2 : 0 < many) : callD fns m 11 [sD ns,.int k,.int j,.int many] st = some (.int (drawV ns k j many),st):=draw_eq hDraw hm hn hj hj2 hm2
end
theorem getD_mem {α : Type} (xs : List α) (z : α) (i : Int) (h0 : 0 ≤ i) (h1 : i < xs.length) : xs.getD i.toNat z ∈ xs:=by
  have h2 : i.toNat < xs.length:=by omega
  rw [List.getD_eq_getElem?_getD,List.getElem?_eq_getElem h2]
  exact List.getElem_mem h2
theorem ix_lst {α : Type} (g : α→D) (xs : List α) (z : α) (i : Int) (h0 : 0 ≤ i) (h1 : i < xs.length) (S : Store) : idxD S (.lst (xs.map g)) (.int i) = some (g (xs.getD i.toNat z)):=by
  have h2 : i.toNat < xs.length:=by omega
  simp only [idxD,seqAt,Option.bind_some,atI,ixN,h0,if_true,List.length_map,h1,List.getElem?_map]
  rw [List.getD_eq_getElem?_getD,List.getElem?_eq_getElem h2]
  rfl
def gSize (ns : List Int) (k j : Int) : Int:=[2,10,1000,10 ^ 10].getD (drawV ns k j 4).toNat 2
def greatV (ns : List Int) (k j : Int) : Int:=if drawV ns k (j + 2) 6 = 0 then drawV ns k (j + 1) (gSize ns k j) * 10 ^ 30 + drawV ns k (j + 3) (10 ^ 10) else drawV ns k (j + 1) (gSize ns k j)
theorem gSize_ok (ns : List Int) (k j : Int) : 0 < gSize ns k j∧gSize ns k j ≤ 10 ^ 10:=by
  have a0:=drawV_lo ns k j (many:=4) (by omega)
  have a1:=drawV_hi ns k j (many:=4) (by omega)
  have:=getD_mem ([2,10,1000,10 ^ 10] : List Int) 2 (drawV ns k j 4) a0 a1
  unfold gSize
  simp only [List.mem_cons,List.not_mem_nil,or_false] at this
  omega
theorem great_sm (ns : List Int) (k j : Int) : Sm (greatV ns k j):=by
  obtain ⟨g0,g1⟩:=gSize_ok ns k j
  have a0:=drawV_lo ns k (j + 1) g0
  have a1:=drawV_hi ns k (j + 1) g0
  have b0:=drawV_lo ns k (j + 3) (many:=10 ^ 10) (by omega)
  have b1:=drawV_hi ns k (j + 3) (many:=10 ^ 10) (by omega)
  unfold greatV Sm
  split <;> omega
def greatN (ns : List Int) (k j : Int) : Nat:=(greatV ns k j).toNat
theorem great_n (ns : List Int) (k j : Int) : nSm (greatN ns k j)∧D.int (greatV ns k j) = iD (greatN ns k j):=by
  have h:=great_sm ns k j
  refine ⟨by unfold nSm greatN; have:=h.1; have:=h.2; omega,?_⟩
  show D.int _ = D.int (((greatV ns k j).toNat : Nat) : Int)
  rw [Int.toNat_of_nonneg h.1]
theorem great_ok {m : Nat} (hm : 2 ≤ m) (st : Store) (ns : List Int) (k j : Int) (hn : ns.length ≤ 63) (hj : 0 ≤ j) (hj2 : j < 900) : callD fns m 13 [sD ns,.int k,.int j] st = some (iD (greatN ns k j),st):=by
  rw [← (great_n ns k j).2]
  obtain ⟨m,rfl⟩ : ∃ q,m = q + 1:=⟨m - 1,by omega⟩
  have dr:=fun j' many h1 h2 h3=>drw (m:=m) hn (by omega) st k j' many h1 h2 h3
  have a0:=drawV_lo ns k j (many:=4) (by omega)
  have a1:=drawV_hi ns k j (many:=4) (by omega)
  obtain ⟨g0,g1⟩:=gSize_ok ns k j
  have m0:=drawV_lo ns k (j + 1) g0
  have m1:=drawV_hi ns k (j + 1) g0
  have p10 : ∀ S,binop S .Pow (.int 10) (.int 10) = some (.int (10 ^ 10),S):=fun S=>rfl
  have p30 : ∀ S,binop S .Pow (.int 10) (.int 30) = some (.int (10 ^ 30),S):=fun S=>rfl
  have pA : ∀ S a b,binop S .Add (.int a) (.int b) = some (.int (a + b),S):=fun S a b=>rfl
  refine call_of (0 + 30) (F:=f_law_great) rfl rfl rfl ?_
  show exs (stepEx (rn fns m (0 + 30))) b_law_great [some (sD ns),some (.int k),some (.int j),none,none] st = _
  unfold b_law_great
  rw [exs_cons (τ':=[some (sD ns),some (.int k),some (.int j),some (.int (gSize ns k j)),none]) (s':=st) (by
    have l1 : ∀ n : Nat,(rn fns m (n + 8)).ev [some (sD ns),some (.int k),some (.int j),none,none] st (.gc (.lst [(.lit (.int 2)),(.lit (.int 10)),(.lit (.int 1000)),(.bin .Pow (.lit (.int 10)) (.lit (.int 10)))])) = some (.lst (([2,10,1000,10 ^ 10] : List Int).map D.int),st):=fun n=>by
      refine gc_lit (n:=n + 6) ?_ (by simp) (noLocs_map fun _ _=>rfl)
      simp only [evs,ev_k,stepEv,Option.bind_some,p10]
      rfl
    have c1 : ∀ n : Nat,(rn fns m (n + 8)).ev [some (sD ns),some (.int k),some (.int j),none,none] st (.gc (.call 11 [(.var 0),(.var 1),(.var 2),(.lit (.int 4))])) = some (.int (drawV ns k j 4),st):=fun n=>by
      simp only [ev_k,stepEv,evs,List.getElem?_cons_succ,List.getElem?_cons_zero,Option.bind_some,call_k,dr j 4 hj (by omega) (by omega),Option.map_some,gc_int]
    simp only [stepEx]
    rw [ev_k]
    simp only [stepEv,l1,c1,Option.bind_some,ix_lst D.int ([2,10,1000,10 ^ 10] : List Int) 2 _ a0 a1,Option.map_some]
    rfl)]
  rw [exs_cons (τ':=[some (sD ns),some (.int k),some (.int j),some (.int (gSize ns k j)),some (.int (drawV ns k (j + 1) (gSize ns k j)))]) (s':=st) (by
    simp only [stepEx,ev_k,stepEv,evs,List.getElem?_cons_succ,List.getElem?_cons_zero,Option.bind_some,pA,call_k,dr (j + 1) _ (by omega) (by omega) g0,Option.map_some,gc_int]
    rfl)]
  generalize hM : drawV ns k (j + 1) (gSize ns k j) = M at m0 m1
  have t2 : ∀ n : Nat,(rn fns m (n + 8)).tst [some (sD ns),some (.int k),some (.int j),some (.int (gSize ns k j)),some (.int M)] st (.cmp .Eq (.gc (.call 11 [(.var 0),(.var 1),(.bin .Add (.var 2) (.lit (.int 2))),(.lit (.int 6))])) (.lit (.int 0))) = some ((drawV ns k (j + 2) 6 == 0),st):=fun n=>by
    simp only [tst_k,stepTst,ev_k,stepEv,evs,List.getElem?_cons_succ,List.getElem?_cons_zero,Option.bind_some,pA,call_k,dr (j + 2) 6 (by omega) (by omega) (by omega),Option.map_some,gc_int,cmpD,eqD_ii]
  unfold greatV
  rw [hM]
  by_cases h : drawV ns k (j + 2) 6 = 0
  · rw [if_pos h]
    refine exs_ret ((stepEx_ite_t (st':=st) (by rw [t2,h]; rfl)).trans ?_)
    rw [ex_k]
    refine exs_ret ?_
    have p3 : ∀ S,binop S .Mult (.int M) (.int (10 ^ 30)) = some (.int (M * 10 ^ 30),S):=fun S=>by
      have mo:=mulOk_l (a:=M) (b:=10 ^ 30) (by omega) (by omega)
      simp only [binop]
      rw [if_pos mo]
    simp only [stepEx,ev_k,stepEv,evs,List.getElem?_cons_succ,List.getElem?_cons_zero,Option.bind_some,p30,p10,p3,pA,call_k,dr (j + 3) (10 ^ 10) (by omega) (by omega) (by omega),Option.map_some,gc_int]
  · rw [if_neg h]
    have hb : (drawV ns k (j + 2) 6 == 0) = false:=by simpa using h
    rw [exs_cons (τ':=[some (sD ns),some (.int k),some (.int j),some (.int (gSize ns k j)),some (.int M)]) (s':=st) (by refine (stepEx_ite_f (st':=st) ?_).trans rfl; rw [t2,hb])]
    exact exs_ret rfl
def lT (ns : List Int) (k : Int) (l : Nat) (a b c d : Option D) : Sl:=[some (sD ns),some (.int k),some (.loc l),a,b,c,d]
theorem loop_ok {m : Nat} (hm : 2 ≤ m) (st : Store) (ns : List Int) (k : Int) (hn : ns.length ≤ 63) :
    ∃ (os : List Oth) (a b : Option D),(∀ o ∈ os,o.ok)∧os.length < 20∧stepEx (rn fns m (0 + 30)) (lT ns k st.length none none none none) (st++[.lst true []]) (.forr (.var 3) (.rng1 (.gc (.call 11 [(.var 0),(.var 1),(.lit (.int 0)),(.lit (.int 6))]))) [.set (.var 4) (.idx (.gc (.lst [(.lit (.str (PySem.Str.ofString "given"))),(.lit (.str (PySem.Str.ofString "fallen"))),(.lit (.str (PySem.Str.ofString "unvested"))),(.lit (.str (PySem.Str.ofString "ground"))),(.lit (.str (PySem.Str.ofString "younger")))])) (.gc (.call 11 [(.var 0),(.bin .Add (.var 1) (.var 3)),(.lit (.int 1)),(.lit (.int 5))]))),.expr (.meth (.var 2) .append [(.tup [(.gc (.call 13 [(.var 0),(.bin .Add (.var 1) (.var 3)),(.lit (.int 2))])),(.var 4),(.gc (.call 13 [(.var 0),(.bin .Add (.var 1) (.var 3)),(.lit (.int 6))]))])])]) = some (.nx (lT ns k st.length a b none none),st++[.lst true (os.map oD)]):=by
  have dr:=fun S k' j' many h1 h2 h3=>drw (m:=m) hn (by omega) S k' j' many h1 h2 h3
  have pA : ∀ S a b,binop S .Add (.int a) (.int b) = some (.int (a + b),S):=fun S a b=>rfl
  have b0:=drawV_lo ns k 0 (many:=6) (by omega)
  have b1:=drawV_hi ns k 0 (many:=6) (by omega)
  have ec:=dr (st++[.lst true []]) k 0 6 (by omega) (by omega) (by omega)
  generalize hx : drawV ns k 0 6 = x at b0 b1 ec
  have hb : big x = false:=by
    unfold big
    simp
    omega
  have hs : src (rn fns m (0 + 30)) (lT ns k st.length none none none none) (st++[.lst true []]) (.rng1 (.gc (.call 11 [(.var 0),(.var 1),(.lit (.int 0)),(.lit (.int 6))]))) = some (.rng 0 x.toNat,st++[.lst true []]):=by
    simp only [src,ev_k,stepEv,evs,lT,List.getElem?_cons_succ,List.getElem?_cons_zero,Option.bind_some,call_k,ec,Option.map_some,gc_int,hb,Bool.false_eq_true,if_false]
  simp only [stepEx]
  rw [hs]
  simp only [Option.bind_some,Src.size]
  obtain ⟨τ',S',e,os,a,b,h1,h2,h3,h4⟩:=loop_rng (lo:=0) (n:=x.toNat) (τ:=lT ns k st.length none none none none) (st:=st++[.lst true []])
    (f:=fun τ st d=>(setT (.var 3) d τ).bind fun τ'=>(rn fns m (0 + 30)).ex τ' st [.set (.var 4) (.idx (.gc (.lst [(.lit (.str (PySem.Str.ofString "given"))),(.lit (.str (PySem.Str.ofString "fallen"))),(.lit (.str (PySem.Str.ofString "unvested"))),(.lit (.str (PySem.Str.ofString "ground"))),(.lit (.str (PySem.Str.ofString "younger")))])) (.gc (.call 11 [(.var 0),(.bin .Add (.var 1) (.var 3)),(.lit (.int 1)),(.lit (.int 5))]))),.expr (.meth (.var 2) .append [(.tup [(.gc (.call 13 [(.var 0),(.bin .Add (.var 1) (.var 3)),(.lit (.int 2))])),(.var 4),(.gc (.call 13 [(.var 0),(.bin .Add (.var 1) (.var 3)),(.lit (.int 6))]))])])])
    (fun i τ S=>∃ (os : List Oth) (a b : Option D),τ = lT ns k st.length a b none none∧S = st++[.lst true (os.map oD)]∧(∀ o ∈ os,o.ok)∧os.length = i) ⟨[],none,none,rfl,rfl,(fun o ho=>by cases ho),rfl⟩ (by
      rintro i τ S hi ⟨os,a,b,rfl,rfl,hok,hlen⟩
      have w0:=drawV_lo ns (k + (0 + i)) 1 (many:=5) (by omega)
      have w1:=drawV_hi ns (k + (0 + i)) 1 (many:=5) (by omega)
      obtain ⟨B,hB⟩ : ∃ B,B = st++[.lst true (os.map oD)]:=⟨_,rfl⟩
      have e1:=dr B (k + (0 + i)) 1 5 (by omega) (by omega) (by omega)
      generalize hw : drawV ns (k + (0 + i)) 1 5 = y at w0 w1 e1
      have g1:=great_ok hm B ns (k + (0 + i)) 2 hn (by omega) (by omega)
      have g2:=great_ok hm B ns (k + (0 + i)) 6 hn (by omega) (by omega)
      have n1:=(great_n ns (k + (0 + i)) 2).1
      have n2:=(great_n ns (k + (0 + i)) 6).1
      generalize greatN ns (k + (0 + i)) 2 = c1 at g1 n1
      generalize greatN ns (k + (0 + i)) 6 = c2 at g2 n2
      have hwm:=getD_mem wordsO wGiven y w0 w1
      have hix : ∀ S,idxD S (.lst (wordsO.map tD)) (.int y) = some (tD (wordsO.getD y.toNat wGiven)):=fun S=>ix_lst tD wordsO wGiven y w0 w1 S
      generalize wordsO.getD y.toNat wGiven = w at hwm hix
      refine ⟨lT ns k st.length (some (.int (0 + i))) (some (tD w)) none none,st++[.lst true ((os++[(⟨c1,w,c2⟩ : Oth)]).map oD)],?_,os++[(⟨c1,w,c2⟩ : Oth)],_,_,rfl,rfl,?_,by simp [hlen]⟩
      · show (rn fns m (0 + 30)).ex (lT ns k st.length (some (.int (0 + i))) b none none) (st++[.lst true (os.map oD)]) _ = _
        rw [← hB,ex_k]
        rw [exs_cons (τ':=lT ns k st.length (some (.int (0 + i))) (some (tD w)) none none) (s':=B) (by
          have l1 : ∀ n : Nat,(rn fns m (n + 8)).ev (lT ns k st.length (some (.int (0 + i))) b none none) B (.gc (.lst [(.lit (.str (PySem.Str.ofString "given"))),(.lit (.str (PySem.Str.ofString "fallen"))),(.lit (.str (PySem.Str.ofString "unvested"))),(.lit (.str (PySem.Str.ofString "ground"))),(.lit (.str (PySem.Str.ofString "younger")))])) = some (.lst (wordsO.map tD),B):=fun n=>by
            refine gc_lit (n:=n + 6) ?_ (by simp [wordsO]) (nl_tD _)
            rw [xGiven,xFallen,xUnvested,xGround,xYounger]
            rfl
          have k1 : ∀ n : Nat,(rn fns m (n + 8)).ev (lT ns k st.length (some (.int (0 + i))) b none none) B (.gc (.call 11 [(.var 0),(.bin .Add (.var 1) (.var 3)),(.lit (.int 1)),(.lit (.int 5))])) = some (.int y,B):=fun n=>by
            simp only [ev_k,stepEv,evs,lT,List.getElem?_cons_succ,List.getElem?_cons_zero,Option.bind_some,pA,call_k,e1,Option.map_some,gc_int]
          simp only [stepEx]
          rw [ev_k]
          simp only [stepEv,l1,k1,Option.bind_some,hix,Option.map_some]
          rfl)]
        have my : mty B .append (.loc st.length) = true:=by
          show (true && (seqAt B (.loc st.length)).isSome) = true
          rw [hB,seq_end]
          rfl
        have wB : wlistAt B st.length = some (os.map oD):=by rw [hB]; exact wat_mid _ _ _
        have sB : ∀ c,B.set st.length c = st++[c]:=fun c=>by rw [hB]; exact set_mid _ _ _ _
        have tp : ∀ n : Nat,(rn fns m (n + 12)).ev (lT ns k st.length (some (.int (0 + i))) (some (tD w)) none none) B (.tup [(.gc (.call 13 [(.var 0),(.bin .Add (.var 1) (.var 3)),(.lit (.int 2))])),(.var 4),(.gc (.call 13 [(.var 0),(.bin .Add (.var 1) (.var 3)),(.lit (.int 6))]))]) = some (oD ⟨c1,w,c2⟩,B):=fun n=>by
          have q1 : ∀ n : Nat,(rn fns m (n + 8)).ev (lT ns k st.length (some (.int (0 + i))) (some (tD w)) none none) B (.gc (.call 13 [(.var 0),(.bin .Add (.var 1) (.var 3)),(.lit (.int 2))])) = some (iD c1,B):=fun n=>by
            refine gc_ev (n:=n + 7) ?_ rfl
            simp only [ev_k,stepEv,evs,lT,List.getElem?_cons_succ,List.getElem?_cons_zero,Option.bind_some,pA,call_k,g1]
          have q2 : ∀ n : Nat,(rn fns m (n + 8)).ev (lT ns k st.length (some (.int (0 + i))) (some (tD w)) none none) B (.gc (.call 13 [(.var 0),(.bin .Add (.var 1) (.var 3)),(.lit (.int 6))])) = some (iD c2,B):=fun n=>by
            refine gc_ev (n:=n + 7) ?_ rfl
            simp only [ev_k,stepEv,evs,lT,List.getElem?_cons_succ,List.getElem?_cons_zero,Option.bind_some,pA,call_k,g2]
          have q3 : ∀ n : Nat,(rn fns m (n + 1)).ev (lT ns k st.length (some (.int (0 + i))) (some (tD w)) none none) B (.var 4) = some (tD w,B):=fun n=>rfl
          rw [ev_k]
          simp only [stepEv,evs,q1,q2,q3,Option.bind_some]
          rfl
        have v2 : ∀ n : Nat,(rn fns m (n + 1)).ev (lT ns k st.length (some (.int (0 + i))) (some (tD w)) none none) B (.var 2) = some (.loc st.length,B):=fun n=>rfl
        rw [exs_cons (τ':=lT ns k st.length (some (.int (0 + i))) (some (tD w)) none none) (s':=st++[.lst true ((os++[(⟨c1,w,c2⟩ : Oth)]).map oD)]) (by
          simp only [stepEx]
          rw [ev_k]
          simp only [stepEv,v2,Option.bind_some,my,if_true,evs,tp,mfun,mAppend,wB,sB]
          rw [if_pos (by rw [List.length_map]; unfold lim; omega),List.map_append]
          rfl)]
        rfl
      · intro o ho
        rcases List.mem_append.mp ho with z | z
        · exact hok o z
        · rw [List.mem_singleton.mp z]
          exact ⟨n1,n2,hwm⟩)
  refine ⟨os,a,b,h3,by omega,?_⟩
  subst h1 h2
  exact e
theorem loose_ok {m : Nat} (hm : 3 ≤ m) (st : Store) (ns : List Int) (k : Int) (hn : ns.length ≤ 63) : ∃ (p : Pap) (r : Store),p.ok∧callD fns m 15 [sD ns,.int k] st = some (papD p,st++r):=by
  obtain ⟨m,rfl⟩ : ∃ q,m = q + 1:=⟨m - 1,by omega⟩
  obtain ⟨os,a,b,h1,h2,e⟩:=loop_ok (m:=m) (by omega) st ns k hn
  suffices hx : ∃ (p : Pap) (r : Store),p.ok∧exs (stepEx (rn fns m (0 + 30))) b_law_loose_paper [some (sD ns),some (.int k),none,none,none,none,none] st = some (.rt (papD p),st++r) by
    obtain ⟨p,r,hp,e⟩:=hx
    exact ⟨p,r,hp,call_of (0 + 30) (F:=f_law_loose_paper) rfl rfl rfl e⟩
  unfold b_law_loose_paper
  rw [exs_cons (τ':=lT ns k st.length none none none none) (s':=st++[.lst true []]) rfl,exs_cons e]
  obtain ⟨B,hB⟩ : ∃ B,B = st++[.lst true (os.map oD)]:=⟨_,rfl⟩
  have sB : seqAt B (.loc st.length) = some (os.map oD):=by rw [hB]; exact seq_end _ _ _
  rw [← hB]
  have dr:=fun k' j' many h1 h2 h3=>drw (m:=m) hn (by omega) B k' j' many h1 h2 h3
  have pA : ∀ S a b,binop S .Add (.int a) (.int b) = some (.int (a + b),S):=fun S a b=>rfl
  have t1 : ∀ n : Nat,(rn fns m (n + 8)).tst (lT ns k st.length a b none none) B (.cmp .Eq (.gc (.call 11 [(.var 0),(.var 1),(.lit (.int 10)),(.lit (.int 3))])) (.lit (.int 0))) = some ((drawV ns k 10 3 == 0),B):=fun n=>by
    simp only [tst_k,stepTst,ev_k,stepEv,evs,lT,List.getElem?_cons_succ,List.getElem?_cons_zero,Option.bind_some,call_k,dr k 10 3 (by omega) (by omega) (by omega),Option.map_some,gc_int,cmpD,eqD_ii]
  have tu : ∀ (c d : Option D) (n : Nat),(rn fns m (n + 3)).ev (lT ns k st.length a b c d) B (.bcall .tuple [(.var 2)]) = some (.tup (os.map oD),B):=fun c d n=>by
    simp only [ev_k,stepEv,evs,lT,List.getElem?_cons_succ,List.getElem?_cons_zero,Option.bind_some,bfun,bTuple,sB,Option.map_some]
  by_cases h : drawV ns k 10 3 = 0
  · refine ⟨.op os,[.lst true (os.map oD)],⟨h1,h2⟩,exs_ret ((stepEx_ite_t (st':=B) (by rw [t1,h]; rfl)).trans ?_)⟩
    rw [ex_k]
    refine exs_ret ?_
    have o1 : ∀ n : Nat,(rn fns m (n + 1)).ev (lT ns k st.length a b none none) B (.lit (.str (PySem.Str.ofString "open"))) = some (tD wOpen,B):=fun n=>by rw [xOpen]; rfl
    simp only [stepEx]
    rw [ev_k]
    simp only [stepEv,evs,o1,tu,Option.bind_some]
    rw [hB]
    rfl
  · have hb : (drawV ns k 10 3 == 0) = false:=by simpa using h
    rw [exs_cons (τ':=lT ns k st.length a b none none) (s':=B) (by refine (stepEx_ite_f (st':=B) ?_).trans rfl; rw [t1,hb])]
    rw [exs_cons (τ':=lT ns k st.length a b (some (wayD .ground)) none) (s':=B) (by rw [xGround]; rfl)]
    have gr : ∀ k' j',0 ≤ j'→j' < 900→callD fns m 13 [sD ns,.int k',.int j'] B = some (iD (greatN ns k' j'),B):=fun k' j' q1 q2=>great_ok (m:=m) (by omega) B ns k' j' hn q1 q2
    have t2 : ∀ n : Nat,(rn fns m (n + 8)).tst (lT ns k st.length a b (some (wayD .ground)) none) B (.cmp .Gt (.gc (.call 11 [(.var 0),(.var 1),(.lit (.int 11)),(.lit (.int 3))])) (.lit (.int 0))) = some (decide (0 < drawV ns k 11 3),B):=fun n=>by
      simp only [tst_k,stepTst,ev_k,stepEv,evs,lT,List.getElem?_cons_succ,List.getElem?_cons_zero,Option.bind_some,call_k,dr k 11 3 (by omega) (by omega) (by omega),Option.map_some,gc_int,cmpD]
    have gcg : ∀ (c d : Option D) (j' : Int),0 ≤ j'→j' < 900→∀ n : Nat,(rn fns m (n + 8)).ev (lT ns k st.length a b c d) B (.gc (.call 13 [(.var 0),(.var 1),(.lit (.int j'))])) = some (iD (greatN ns k j'),B):=fun c d j' q1 q2 n=>by
      refine gc_ev (n:=n + 7) ?_ rfl
      simp only [ev_k,stepEv,evs,lT,List.getElem?_cons_succ,List.getElem?_cons_zero,Option.bind_some,call_k,gr k j' q1 q2]
    have way : ∃ w : Way,w.ok∧stepEx (rn fns m (0 + 30)) (lT ns k st.length a b (some (wayD .ground)) none) B (.ite (.cmp .Gt (.gc (.call 11 [(.var 0),(.var 1),(.lit (.int 11)),(.lit (.int 3))])) (.lit (.int 0))) [.set (.var 5) (.tup [(.lit (.str (PySem.Str.ofString "dip"))),(.gc (.call 13 [(.var 0),(.var 1),(.lit (.int 12))])),(.gc (.call 13 [(.var 0),(.var 1),(.lit (.int 16))]))])] []) = some (.nx (lT ns k st.length a b (some (wayD w)) none),B):=by
      by_cases hw : 0 < drawV ns k 11 3
      · refine ⟨.dip (greatN ns k 12) (greatN ns k 16),⟨(great_n ns k 12).1,(great_n ns k 16).1⟩,(stepEx_ite_t (st':=B) (by rw [t2,decide_eq_true hw])).trans ?_⟩
        rw [ex_k,exs_cons (τ':=lT ns k st.length a b (some (wayD (.dip (greatN ns k 12) (greatN ns k 16)))) none) (s':=B) (by
          have o1 : ∀ n : Nat,(rn fns m (n + 1)).ev (lT ns k st.length a b (some (wayD .ground)) none) B (.lit (.str (PySem.Str.ofString "dip"))) = some (tD wDip,B):=fun n=>by rw [xDip]; rfl
          simp only [stepEx]
          rw [ev_k]
          simp only [stepEv,evs,o1,gcg _ _ 12 (by omega) (by omega),gcg _ _ 16 (by omega) (by omega),Option.bind_some]
          rfl)]
        rfl
      · exact ⟨.ground,trivial,(stepEx_ite_f (st':=B) (by rw [t2,decide_eq_false hw])).trans rfl⟩
    obtain ⟨w,hw,ew⟩:=way
    rw [exs_cons ew]
    have y0:=drawV_lo ns k 24 (many:=7) (by omega)
    have y1:=drawV_hi ns k 24 (many:=7) (by omega)
    have ey:=dr k 24 7 (by omega) (by omega) (by omega)
    generalize hy : drawV ns k 24 7 = x at y0 y1 ey
    have hbx : big x = false:=by
      unfold big
      simp
      omega
    let ys : List Nat:=(List.range x.toNat).map fun (i : Nat)=>greatN ns (k + (0 + (i : Int))) 20
    have cy : ∀ n : Nat,(rn fns m (n + 12)).ev (lT ns k st.length a b (some (wayD w)) none) B (.gc (.comp (.var 0) (.rng1 (.gc (.call 11 [(.var 0),(.var 1),(.lit (.int 24)),(.lit (.int 7))]))) none (.gc (.call 13 [(.var 1),(.bin .Add (.var 2) (.var 0)),(.lit (.int 20))])) [none,some 0,some 1])) = some (.lst (ys.map iD),B):=fun n=>by
      have:=gc_comp (c:=callD fns m) (n:=n + 10) (τ:=lT ns k st.length a b (some (wayD w)) none) (st:=B) (it:=.rng1 (.gc (.call 11 [(.var 0),(.var 1),(.lit (.int 24)),(.lit (.int 7))]))) (elt:=.gc (.call 13 [(.var 1),(.bin .Add (.var 2) (.var 0)),(.lit (.int 20))])) (sr:=[none,some 0,some 1]) (s:=.rng 0 x.toNat) (rest:=[some (sD ns),some (.int k)]) (List.range x.toNat) (fun (i : Nat)=>.int ((0 : Int) + i)) (fun (i : Nat)=>iD (greatN ns (k + (0 + (i : Int))) 20)) (by
        simp only [src,ev_k,stepEv,evs,lT,List.getElem?_cons_succ,List.getElem?_cons_zero,Option.bind_some,call_k,ey,Option.map_some,gc_int,hbx,Bool.false_eq_true,if_false]) (fun i=>at_rng 0 _ i) (by simp [Src.size]) rfl (by simp; omega) (fun _ _=>rfl) (fun i hi=>by
        refine gc_ev (n:=n + 9) ?_ rfl
        simp only [ev_k,stepEv,evs,List.getElem?_cons_succ,List.getElem?_cons_zero,Option.bind_some,pA,call_k,gr _ 20 (by omega) (by omega)])
      rw [this]
      simp only [ys,List.map_map]
      rfl
    rw [exs_cons (τ':=lT ns k st.length a b (some (wayD w)) (some (.lst (ys.map iD)))) (s':=B) (by
      simp only [stepEx,cy,Option.bind_some]
      rfl)]
    refine ⟨.held (greatN ns k 25) w ys os,[.lst true (os.map oD)],⟨(great_n ns k 25).1,hw,fun y hy=>?_,by simp [ys]; omega,h1,h2⟩,exs_ret ?_⟩
    · obtain ⟨i,_,rfl⟩:=List.mem_map.mp hy
      exact (great_n _ _ _).1
    · have o1 : ∀ n : Nat,(rn fns m (n + 1)).ev (lT ns k st.length a b (some (wayD w)) (some (.lst (ys.map iD)))) B (.lit (.str (PySem.Str.ofString "held"))) = some (tD wHeld,B):=fun n=>by rw [xHeld]; rfl
      have v5 : ∀ n : Nat,(rn fns m (n + 1)).ev (lT ns k st.length a b (some (wayD w)) (some (.lst (ys.map iD)))) B (.var 5) = some (wayD w,B):=fun n=>rfl
      have t6 : ∀ n : Nat,(rn fns m (n + 3)).ev (lT ns k st.length a b (some (wayD w)) (some (.lst (ys.map iD)))) B (.bcall .tuple [(.var 6)]) = some (.tup (ys.map iD),B):=fun n=>rfl
      simp only [stepEx]
      rw [ev_k]
      simp only [stepEv,evs,o1,gcg _ _ 25 (by omega) (by omega),v5,t6,tu,Option.bind_some]
      rw [hB]
      rfl
theorem dp_pap (p : Pap) (h : p.ok) : Dp 3 (papD p):=by
  have dI : ∀ k j,Dp k (iD j):=fun k j=>.int
  have dT : ∀ k j,Dp k (tD j):=fun k j=>.str
  have dO : ∀ (os : List Oth),os.length < 20→Dp 2 (.tup (os.map oD)):=fun os hl=>.tup (fun d hd=>by
    obtain ⟨o,_,rfl⟩:=List.mem_map.mp hd
    exact .tup (fun d hd=>by
      simp only [List.mem_cons,List.not_mem_nil,or_false] at hd
      rcases hd with rfl | rfl | rfl
      · exact dI _ _
      · exact dT _ _
      · exact dI _ _) (by simp)) (by rw [List.length_map]; omega)
  cases p with
  | op os =>
    refine .tup (fun d hd=>?_) (by simp)
    simp only [List.mem_cons,List.not_mem_nil,or_false] at hd
    rcases hd with rfl | rfl
    · exact dT _ _
    · exact dO os h.2
  | held c w ys os =>
    obtain ⟨_,_,_,h4,_,h6⟩:=h
    refine .tup (fun d hd=>?_) (by simp)
    simp only [List.mem_cons,List.not_mem_nil,or_false] at hd
    rcases hd with rfl | rfl | rfl | rfl | rfl
    · exact dT _ _
    · exact dI _ _
    · cases w with
      | ground=>exact .tup (fun d hd=>by rw [List.mem_singleton] at hd; subst hd; exact dT _ _) (by simp)
      | dip v c' =>
        exact .tup (fun d hd=>by
          simp only [List.mem_cons,List.not_mem_nil,or_false] at hd
          rcases hd with rfl | rfl | rfl
          · exact dT _ _
          · exact dI _ _
          · exact dI _ _) (by simp)
    · exact .tup (fun d hd=>by obtain ⟨y,_,rfl⟩:=List.mem_map.mp hd; exact dI _ _) (by rw [List.length_map]; omega)
    · exact dO os h6
theorem law_ok (ns : List Int) (hn : ns.length ≤ 63) : ∃ st',callD fns 20 16 [.lst (ns.map D.int)] [] = some (.bl true,st'):=by
  obtain ⟨p,r,hp,e1⟩:=loose_ok (m:=19) (by omega) [] ns 1 hn
  have e2:=shown_ok 17 [] p hp
  obtain ⟨r3,e3⟩:=flat_ok 18 [] p hp
  have e4:=same_eq hSame (k:=0) (d:=.str (mk (papX p))) .str 19 [] (by omega)
  have e5:=paper_ok 13 [] p hp
  have e6:=same_eq hSame (dp_pap p hp) 19 [] (by omega)
  refine ⟨[],call_of (0 + 30) (F:=f_law) rfl rfl rfl ?_⟩
  show exs (stepEx (rn fns 19 (0 + 30))) b_law [some (sD ns),none,none] [] = _
  unfold b_law
  have g1 : ∀ n : Nat,(rn fns 19 (n + 6)).ev [some (sD ns),none,none] [] (.gc (.call 15 [(.var 0),(.lit (.int 1))])) = some (papD p,[]):=fun n=>by
    simp only [ev_k,stepEv,evs,List.getElem?_cons_zero,Option.bind_some,call_k,e1,Option.map_some,gc_app (papD_nl p)]
  rw [exs_cons (τ':=[some (sD ns),some (papD p),none]) (s':=[]) (by simp only [stepEx,g1,Option.bind_some]; rfl)]
  have g2 : ∀ n : Nat,(rn fns 19 (n + 6)).ev [some (sD ns),some (papD p),none] [] (.gc (.call 4 [(.var 1)])) = some (.str (mk (papX p)),[]):=fun n=>by
    simp only [ev_k,stepEv,evs,List.getElem?_cons_succ,List.getElem?_cons_zero,Option.bind_some,call_k,e2,Option.map_some,gc_str]
  rw [exs_cons (τ':=[some (sD ns),some (papD p),some (.str (mk (papX p)))]) (s':=[]) (by simp only [stepEx,g2,Option.bind_some]; rfl)]
  generalize hT : ([some (sD ns),some (papD p),some (.str (mk (papX p)))] : Sl) = T
  have v1 : ∀ n : Nat,(rn fns 19 (n + 1)).ev T [] (.var 1) = some (papD p,[]):=fun n=>by rw [← hT]; rfl
  have v2 : ∀ n : Nat,(rn fns 19 (n + 1)).ev T [] (.var 2) = some (.str (mk (papX p)),[]):=fun n=>by rw [← hT]; rfl
  have g3 : ∀ n : Nat,(rn fns 19 (n + 6)).ev T [] (.gc (.call 14 [(.var 1)])) = some (.str (mk (papX p)),[]):=fun n=>by
    rw [ev_k]
    simp only [stepEv]
    rw [ev_k]
    simp only [stepEv,evs,v1,Option.bind_some,call_k,e3,Option.map_some,gc_app (noLoc_str _)]
  have g4 : ∀ n : Nat,(rn fns 19 (n + 10)).ev T [] (.gc (.call 12 [(.var 2),(.gc (.call 14 [(.var 1)]))])) = some (.bl true,[]):=fun n=>by
    rw [ev_k]
    simp only [stepEv]
    rw [ev_k]
    simp only [stepEv,evs,v2,g3,Option.bind_some,call_k,e4,Option.map_some,gc_bl]
  rw [exs_cons (τ':=T) (s':=[]) (by
    refine (stepEx_ite_f (st':=[]) ?_).trans rfl
    rw [tst_k]
    simp only [stepTst,tst_k,g4,Option.bind_some,truth,Option.map_some,Bool.not_true])]
  have g5 : ∀ n : Nat,(rn fns 19 (n + 6)).ev T [] (.gc (.call 10 [(.var 2)])) = some (papD p,[]):=fun n=>by
    rw [ev_k]
    simp only [stepEv]
    rw [ev_k]
    simp only [stepEv,evs,v2,Option.bind_some,call_k,e5,Option.map_some,gc_same (papD_nl p)]
  refine exs_ret ?_
  simp only [stepEx]
  rw [ev_k]
  simp only [stepEv,evs,g5,v1,Option.bind_some,call_k,e6,Option.map_some]
end K33
end
section
set_option linter.all false
set_option Elab.async false
set_option maxRecDepth 100000
set_option maxHeartbeats 4000000
namespace MS
open PySem PySem.Spec PyProof.Rows L2
theorem noFill_tuple_mul : fillsNumberSlot (.type "tuple") "mul" = pure false :=
  PySem.fillsNumberSlot_seq (id:="tuple.__mul__") (r:=some (.builtin "tuple.__rmul__")) F.slot_tuple_mul.lookup (by decide +kernel) F.slot_tuple_rmul.lookup (by decide +kernel)
theorem repeat_tuple : seqRepeat? (.type "tuple") = pure (some (.builtin "tuple.__mul__")):=by
  unfold seqRepeat?
  rw [PySem.seqSlot_of (T:="tuple") (name:="__mul__") (id:="tuple.__mul__") F.slot_tuple_mul.lookup (by decide +kernel),PySem.seqSlot_of (T:="tuple") (name:="__rmul__") (id:="tuple.__rmul__") F.slot_tuple_rmul.lookup (by decide +kernel)]
  rfl
theorem int_rmul_tuple (a : Int) (t : Tok) (l : Addr) (items : Array Value) (n : Nat) (dd : Option Addr) (sl : Array (Option Value)) :
    Meets (Builtin.«int.__rmul__» ⟨[.int a t,.ref l],[]⟩) (fun _ R s=>s.heap.get? l = some { cls:=.type "tuple",dict:=dd,data:=.seq items n,slots:=sl }∧R (.ok (.ret Value.notImplemented)) s) :=
  .of_wp fun prog w A R s h=>by obtain ⟨hp,g,d,tk,os⟩:=s; obtain ⟨hl,h⟩:=h; wp_walk; exact ⟨_,rfl,h⟩
theorem tuple_mul_same (l : Addr) (items : Array Value) (n : Nat) (dd : Option Addr) (sl : Array (Option Value)) (x : Int) (u : Tok) (h0 : ¬ (decide (x < -(2 ^ 63)) || decide (x ≥ 2 ^ 63)) = true) (h1 : (items.isEmpty || x == 1) = true) :
    Meets (Builtin.«tuple.__mul__» ⟨[.ref l,.int x u],[]⟩) (fun _ R s=>s.heap.get? l = some { cls:=.type "tuple",dict:=dd,data:=.seq items n,slots:=sl }∧R (.ok (.ret (Value.ref l))) s) :=
  .of_wp fun prog w A R s h=>by
    obtain ⟨hp,g,d,tk,os⟩:=s; obtain ⟨hl,h⟩:=h
    wp_walk
    simp only [if_neg h0]
    wp_walk
    exact ⟨_,rfl,h⟩
theorem tuple_mul_none (l : Addr) (items : Array Value) (n : Nat) (dd : Option Addr) (sl : Array (Option Value)) (x : Int) (u : Tok) (h0 : ¬ (decide (x < -(2 ^ 63)) || decide (x ≥ 2 ^ 63)) = true) (h1 : ¬ (items.isEmpty || x == 1) = true) (h2 : (decide (x ≤ 0) || items.isEmpty) = true) :
    Meets (Builtin.«tuple.__mul__» ⟨[.ref l,.int x u],[]⟩) (fun _ R s=>s.heap.get? l = some { cls:=.type "tuple",dict:=dd,data:=.seq items n,slots:=sl }∧R (.ok (.ret (Value.ref s.heap.objs.size))) { s with heap:=s.heap.push { cls:=.type "tuple",data:=.seq #[] } }) :=
  .of_wp fun prog w A R s h=>by
    obtain ⟨hp,g,d,tk,os⟩:=s; obtain ⟨hl,h⟩:=h
    wp_walk
    simp only [if_neg h0]
    wp_walk
    exact ⟨_,rfl,h⟩
theorem tuple_mul_more (l : Addr) (items : Array Value) (n : Nat) (dd : Option Addr) (sl : Array (Option Value)) (x : Int) (u : Tok) (h0 : ¬ (decide (x < -(2 ^ 63)) || decide (x ≥ 2 ^ 63)) = true) (h1 : ¬ (items.isEmpty || x == 1) = true) (h2 : ¬ (decide (x ≤ 0) || items.isEmpty) = true)
    (h3 : ¬ ((items.size : Int) * x > (2 ^ 63 - 1) / 8)) (h4 : ¬ Builtin.Tuple.tupleTooMany ((items.size : Int) * x) = true) (h5 : (List.foldl (fun x1 x2=>x1++x2) #[] (List.replicate x.toNat items)).size ≤ sizeLine) :
    Meets (Builtin.«tuple.__mul__» ⟨[.ref l,.int x u],[]⟩) (fun _ R s=>s.heap.get? l = some { cls:=.type "tuple",dict:=dd,data:=.seq items n,slots:=sl }∧R (.ok (.ret (Value.ref s.heap.objs.size))) { s with heap:=s.heap.push { cls:=.type "tuple",data:=.seq (List.foldl (fun x1 x2=>x1++x2) #[] (List.replicate x.toNat items)) } }) :=
  .of_wp fun prog w A R s h=>by
    obtain ⟨hp,g,d,tk,os⟩:=s; obtain ⟨hl,h⟩:=h
    wp_walk
    simp only [if_neg h0]
    wp_walk
    simp only [if_neg h3]
    wp_walk
    exact ⟨_,rfl,h⟩
def rRepT (K : PySem.W.Frag) : R2:=fun x y H Q=>∃ l k xs,x = .ref l∧y = .int k∧SqT K H l xs∧-(2 ^ 62) ≤ k∧k < 2 ^ 62∧xs.length * k.toNat ≤ sizeLine ∧
  (∀ ys,ys = (List.replicate k.toNat xs).flatten→(ys = xs→Q (.ref l) H)∧∀ p,H p = none→Q (.ref p) (upd H p (.tup ys)))
theorem op_repT {X : Cx} : OpR X (binaryOp .Mult) (rRepT X.K):=by
  intro pins s σ H x y v u Q I rx ry h
  obtain ⟨l,k,xs,rfl,rfl,hq,k1,k2,hz,q⟩:=h
  cases rx
  obtain ⟨t,rfl⟩:=ry
  obtain ⟨its,r,hp,hz0⟩:=I.tuple hq
  obtain ⟨⟨cls,dd,data,sl⟩,ho,hc,n,hd⟩:=id hp
  simp only at hc hd
  subst hc hd
  have hl:=r.length
  obtain ⟨qs,qn⟩:=q _ rfl
  have f0 : ∀ m : Nat,List.foldl (fun x1 x2=>x1++x2) #[] (List.replicate m its.toArray) = (List.replicate m its).flatten.toArray:=fun m=>by
    have:=foldl_rep its m []
    rw [List.nil_append] at this
    exact this
  have h0 : ¬ (decide (k < -(2 ^ 63)) || decide (k ≥ 2 ^ 63)) = true:=by simp; omega
  refine wpAny_binaryOp_repeat_ref (T:="tuple") (U:="int") (by decide) ⟨_,ho,rfl⟩ (fun s'=>typeIs_int s' k t) noFill_tuple_mul F.fills_int_mul F.slot_int_rmul repeat_tuple F.slot_int_index.lookup
    (call_meets F.slot_int_rmul (typeIs_int s k t) F.entry_int_rmul (F.args_int_rmul_2 _ _) (int_rmul_tuple k t l its.toArray n dd sl) ⟨ho,rfl,⟨_,ho,rfl⟩,?_⟩)
  by_cases h1 : (its.toArray.isEmpty || k == 1) = true
  · refine call_meets F.slot_tuple_mul ⟨_,ho,rfl⟩ F.entry_tuple_mul (F.args_tuple_mul_2 _ _) (tuple_mul_same l its.toArray n dd sl k t h0 h1) ⟨ho,?_⟩
    refine ⟨.ref l,H,I,rfl,qs ?_⟩
    rw [Bool.or_eq_true] at h1
    rcases h1 with z | z
    · have e1 : its = []:=by simpa using z
      have e2 : xs = []:=List.length_eq_zero_iff.mp (by rw [hl,e1]; rfl)
      rw [e2]
      simp
    · have e1 : k = 1:=by simpa using z
      rw [e1]
      simp
  · have hne : its ≠ []:=fun z=>h1 (by rw [z]; rfl)
    by_cases h2 : (decide (k ≤ 0) || its.toArray.isEmpty) = true
    · refine call_meets F.slot_tuple_mul ⟨_,ho,rfl⟩ F.entry_tuple_mul (F.args_tuple_mul_2 _ _) (tuple_mul_none l its.toArray n dd sl k t h0 h1 h2) ⟨ho,?_⟩
      have hk : k ≤ 0:=by
        rw [Bool.or_eq_true] at h2
        rcases h2 with z | z
        · simpa using z
        · exact absurd (by simpa using z) hne
      have e0 : k.toNat = 0:=by omega
      refine ⟨.ref _,_,I.laid (a:=s.heap.objs.size) (o:=.tup (List.replicate k.toNat xs).flatten) (t':=s.toks) (fun _ _ e=>Heap.get?_push_of_some _ e) (Nat.le_refl _) ?_,rfl,qn _ I.fresh⟩
      rw [e0]
      exact ⟨Nat.zero_le _,[],.nil,IsTup.new s.heap _⟩
    · have hk : 0 < k:=by
        simp at h2; omega
      have hmul : ((its.toArray.size : Nat) : Int) * k = ((its.length * k.toNat : Nat) : Int):=by
        rw [List.size_toArray,Int.natCast_mul]
        congr 1
        omega
      have hz' : its.length * k.toNat ≤ sizeLine:=by rw [← hl]; exact hz
      have hsl : (sizeLine : Nat) < 2 ^ 60:=by rw [sizeLine_eq]; decide
      refine call_meets F.slot_tuple_mul ⟨_,ho,rfl⟩ F.entry_tuple_mul (F.args_tuple_mul_2 _ _) (tuple_mul_more l its.toArray n dd sl k t h0 h1 h2 ?_ ?_ ?_) ⟨ho,?_⟩
      · rw [hmul]; omega
      · unfold Builtin.Tuple.tupleTooMany
        rw [hmul,decide_eq_true_eq]
        omega
      · rw [f0,List.size_toArray,len_rep,Nat.mul_comm]; exact hz'
      · refine ⟨.ref _,_,I.laid (a:=s.heap.objs.size) (o:=.tup (List.replicate k.toNat xs).flatten) (t':=s.toks) (fun _ _ e=>Heap.get?_push_of_some _ e) (Nat.le_refl _) ?_,rfl,qn _ I.fresh⟩
        rw [f0]
        exact ⟨by rw [len_rep,Nat.mul_comm]; exact hz,_,r.rep k.toNat,IsTup.new s.heap _⟩
section
variable {prog : Program} {w : World} {A : Around} {E : Value→Shared→Prop} {s : Shared}
theorem getItem_tuple_whole {t sl : Addr} {items : Array Value} {vl vu : Value} {lo hi : Option Int} {Q : Value→Shared→Prop} (ht : IsTup s.heap t items) (hs : s.heap.IsSliceOf sl vl vu .none) (pl : IsPart vl lo) (pu : IsPart vu hi)
    (hw : HT.sIx items.size 0 lo = 0∧HT.sIx items.size items.size hi = items.size) (h : Q (.ref t) s) : wpAny (model prog w) A (getItem (.ref t) (.ref sl)) Q E s:=by
  obtain ⟨os,hos,hcs,hds⟩:=id hs
  have hTs : s.TypeIs (.ref sl) "slice":=⟨os,hos,hcs⟩
  unfold getItem
  try with_reducible refine wpAny_holding ?_
  first | refine wpAny_bind (wpAny_pure ?_) | skip
  refine wpAny_bind (wpAny_sequenceKey ht.typeIs (by decide) ?_)
  refine wpAny_bind (wpAny_callSpecial?_slot (name:=Str.ofString "__getitem__") ht.typeIs PyProof.Rows.slot_tuple_getitem
    (wpAny_call_entry PyProof.Rows.slot_tuple_getitem ht.typeIs entry_tuple_getitem ?_ (args_tuple_getitem _ _)))
  show wpAny _ _ (Builtin.Tuple.tupleItemsOf (.ref t) >>= _) _ _ s
  refine wpAny_bind (tupleItemsOf_ ht ?_)
  refine wpAny_bind (wpAny_typeOf hTs ?_)
  rw [if_pos (by decide)]
  refine wpAny_bind (HT.sliceApplied_gen hs pl pu ?_)
  have hyes : (((HT.sIx items.size 0 lo : Nat) : Int) == 0 && (1 : Int) == 1 && (HT.sIx items.size items.size hi - HT.sIx items.size 0 lo) == items.size) = true:=by
    rw [hw.1,hw.2]
    simp
  show wpAny _ _ (if (((HT.sIx items.size 0 lo : Nat) : Int) == 0 && (1 : Int) == 1 && (HT.sIx items.size items.size hi - HT.sIx items.size 0 lo) == items.size) = true then _ else _) _ _ s
  rw [if_pos hyes]
  refine wpAny_bind (m:=Builtin.Tuple.tupleIsExact _) ?_
  unfold Builtin.Tuple.tupleIsExact
  refine wpAny_bind (wpAny_typeOf ht.typeIs (wpAny_pure ?_))
  rw [if_pos (by decide)]
  first
    | exact wpAny_bind (wpAny_rule (wpAny_pure ⟨_,rfl,wpAny_pure h⟩))
    | exact wpAny_bind (wpAny_rule (wpAny_bind (wpAny_pure (wpAny_pure ⟨_,rfl,wpAny_pure h⟩))))
    | exact wpAny_bind (wpAny_bind (wpAny_rule (wpAny_pure (wpAny_pure ⟨_,rfl,wpAny_pure h⟩))))
end
end MS
end
section
set_option linter.all false
set_option Elab.async false
set_option maxRecDepth 100000
namespace MS
open PySem PySem.Spec PyProof.Rows L2
open M (D Cell Store Sl)
def SqF (K : PySem.W.Frag) (H : Hp) (a : Addr) (xs : List V) : Prop :=
  (∃ o,H a = some (.frz o (.lst xs)))∨∃ (o : Obj) (its : Array Value) (n : Nat),K.lookup a = some o∧o.cls = .type "list"∧o.dict = none∧o.data = .seq its n∧its.size ≤ sizeLine∧Vals xs its.toList
mutual
def IsD (K : PySem.W.Frag) (m : List Addr) (H : Hp) : D→V→Prop
  | .non,v=>v = .non
  | .bl b,v=>v = .bl b
  | .int i,v=>v = .int i
  | .str s,v=>v = .str s
  | .tup ds,v=>∃ a xs,v = .ref a∧SqT K H a xs∧IsDs K m H ds xs
  | .lst ds,v=>∃ a xs,v = .ref a∧SqF K H a xs∧IsDs K m H ds xs
  | .loc l,v=>∃ a,m[l]? = some a∧v = .ref a
def IsDs (K : PySem.W.Frag) (m : List Addr) (H : Hp) : List D→List V→Prop
  | [],xs=>xs = []
  | d::ds,xs=>∃ x r,xs = x::r∧IsD K m H d x∧IsDs K m H ds r
end
def Sub (m m' : List Addr) : Prop:=∀ (l : Nat) (a : Addr),m[l]? = some a→m'[l]? = some a
structure Tr (H H' : Hp) : Prop where
  tup : ∀ b xs,H b = some (.tup xs)→H' b = some (.tup xs)
  frz : ∀ b o u,H b = some (.frz o u)→H' b = some (.frz o u)
theorem Sub.refl (m : List Addr) : Sub m m:=fun _ _ h=>h
theorem Sub.trans {m m1 m2 : List Addr} (a : Sub m m1) (b : Sub m1 m2) : Sub m m2:=fun l x h=>b l x (a l x h)
theorem Sub.app (m r : List Addr) : Sub m (m++r):=fun l a h=>by
  rw [List.getElem?_append_left (List.getElem?_eq_some_iff.mp h).1]; exact h
theorem Tr.refl (H : Hp) : Tr H H:=⟨fun _ _ h=>h,fun _ _ _ h=>h⟩
theorem Tr.trans {H H1 H2 : Hp} (a : Tr H H1) (b : Tr H1 H2) : Tr H H2:=⟨fun c xs h=>b.tup c xs (a.tup c xs h),fun c o u h=>b.frz c o u (a.frz c o u h)⟩
theorem Tr.of_same {H H' : Hp} (h : Same H H') : Tr H H':=⟨fun b xs e=>h b _ e,fun b o u e=>h b _ e⟩
theorem same_new {H : Hp} {p : Addr} {o : HO} (hp : H p = none) : Same H (upd H p o):=fun b u e=>by
  rw [upd_ne (ne_of_none e hp)]; exact e
theorem Tr.put {H : Hp} {p : Addr} {xs ys : List V} (hp : H p = some (.lst xs)) : Tr H (upd H p (.lst ys)) :=
  ⟨fun b zs e=>by rw [upd_ne (ne_of e hp (by intro z; cases z))]; exact e,fun b o u e=>by rw [upd_ne (ne_of e hp (by intro z; cases z))]; exact e⟩
theorem Tr.sqT {K : PySem.W.Frag} {H H' : Hp} {a : Addr} {xs : List V} (t : Tr H H') (h : SqT K H a xs) : SqT K H' a xs:=by
  rcases h with (h | ⟨o,h⟩) | h
  · exact .inl (.inl (t.tup _ _ h))
  · exact .inl (.inr ⟨o,t.frz _ _ _ h⟩)
  · exact .inr h
theorem SqF.sq {K : PySem.W.Frag} {H : Hp} {a : Addr} {xs : List V} (h : SqF K H a xs) : SqL K H a xs:=by
  rcases h with h | h
  · exact .inl (.inr h)
  · exact .inr h
theorem Tr.sqF {K : PySem.W.Frag} {H H' : Hp} {a : Addr} {xs : List V} (t : Tr H H') (h : SqF K H a xs) : SqF K H' a xs:=by
  rcases h with ⟨o,h⟩ | h
  · exact .inl ⟨o,t.frz _ _ _ h⟩
  · exact .inr h
section
variable {K : PySem.W.Frag} {m m' : List Addr} {H H' : Hp}
mutual
theorem isD_mono (hs : Sub m m') (ht : Tr H H') : ∀ (d : D) (v : V),IsD K m H d v→IsD K m' H' d v
  | .non,_,h=>h
  | .bl _,_,h=>h
  | .int _,_,h=>h
  | .str _,_,h=>h
  | .tup ds,_,h=>by
    unfold IsD at h ⊢
    obtain ⟨a,xs,e,q,r⟩:=h
    exact ⟨a,xs,e,ht.sqT q,isDs_mono hs ht ds xs r⟩
  | .lst ds,_,h=>by
    unfold IsD at h ⊢
    obtain ⟨a,xs,e,q,r⟩:=h
    exact ⟨a,xs,e,ht.sqF q,isDs_mono hs ht ds xs r⟩
  | .loc l,_,h=>by
    unfold IsD at h ⊢
    obtain ⟨a,e,q⟩:=h
    exact ⟨a,hs l a e,q⟩
theorem isDs_mono (hs : Sub m m') (ht : Tr H H') : ∀ (ds : List D) (xs : List V),IsDs K m H ds xs→IsDs K m' H' ds xs
  | [],_,h=>h
  | d::ds,_,h=>by
    unfold IsDs at h ⊢
    obtain ⟨x,r,e,q,t⟩:=h
    exact ⟨x,r,e,isD_mono hs ht d x q,isDs_mono hs ht ds r t⟩
end
theorem IsD.int {i : Int} {v : V} (h : IsD K m H (.int i) v) : v = .int i:=by unfold IsD at h; exact h
theorem IsD.bl {i : Bool} {v : V} (h : IsD K m H (.bl i) v) : v = .bl i:=by unfold IsD at h; exact h
theorem IsD.str {i : Str} {v : V} (h : IsD K m H (.str i) v) : v = .str i:=by unfold IsD at h; exact h
theorem IsD.non {v : V} (h : IsD K m H .non v) : v = .non:=by unfold IsD at h; exact h
theorem IsD.tup {ds : List D} {v : V} (h : IsD K m H (.tup ds) v) : ∃ a xs,v = .ref a∧SqT K H a xs∧IsDs K m H ds xs:=by unfold IsD at h; exact h
theorem IsD.lst {ds : List D} {v : V} (h : IsD K m H (.lst ds) v) : ∃ a xs,v = .ref a∧SqF K H a xs∧IsDs K m H ds xs:=by unfold IsD at h; exact h
theorem IsD.loc {l : Nat} {v : V} (h : IsD K m H (.loc l) v) : ∃ a,m[l]? = some a∧v = .ref a:=by unfold IsD at h; exact h
theorem mkInt (i : Int) : IsD K m H (.int i) (.int i):=by unfold IsD; rfl
theorem mkBl (i : Bool) : IsD K m H (.bl i) (.bl i):=by unfold IsD; rfl
theorem mkStr (i : Str) : IsD K m H (.str i) (.str i):=by unfold IsD; rfl
theorem mkNon : IsD K m H .non .non:=by unfold IsD; rfl
theorem mkTup {ds : List D} {a : Addr} {xs : List V} (h : SqT K H a xs) (q : IsDs K m H ds xs) : IsD K m H (.tup ds) (.ref a):=by unfold IsD; exact ⟨a,xs,rfl,h,q⟩
theorem mkLst {ds : List D} {a : Addr} {xs : List V} (h : SqF K H a xs) (q : IsDs K m H ds xs) : IsD K m H (.lst ds) (.ref a):=by unfold IsD; exact ⟨a,xs,rfl,h,q⟩
theorem mkLoc {l : Nat} {a : Addr} (h : m[l]? = some a) : IsD K m H (.loc l) (.ref a):=by unfold IsD; exact ⟨a,h,rfl⟩
theorem IsDs.nil {xs : List V} (h : IsDs K m H [] xs) : xs = []:=by unfold IsDs at h; exact h
theorem IsDs.cons {d : D} {ds : List D} {xs : List V} (h : IsDs K m H (d::ds) xs) : ∃ x r,xs = x::r∧IsD K m H d x∧IsDs K m H ds r:=by unfold IsDs at h; exact h
theorem mkNil : IsDs K m H [] []:=by unfold IsDs; rfl
theorem mkCons {d : D} {ds : List D} {x : V} {r : List V} (h : IsD K m H d x) (t : IsDs K m H ds r) : IsDs K m H (d::ds) (x::r):=by unfold IsDs; exact ⟨x,r,rfl,h,t⟩
theorem IsDs.one {d : D} {xs : List V} (h : IsDs K m H [d] xs) : ∃ x,xs = [x]∧IsD K m H d x:=by
  obtain ⟨x,r,rfl,q,t⟩:=h.cons
  rw [t.nil]
  exact ⟨x,rfl,q⟩
theorem IsDs.two {d e : D} {xs : List V} (h : IsDs K m H [d,e] xs) : ∃ x y,xs = [x,y]∧IsD K m H d x∧IsD K m H e y:=by
  obtain ⟨x,r,rfl,q,t⟩:=h.cons
  obtain ⟨y,rfl,q'⟩:=t.one
  exact ⟨x,y,rfl,q,q'⟩
theorem IsDs.length : ∀ {ds : List D} {xs : List V},IsDs K m H ds xs→ds.length = xs.length
  | [],_,h=>by rw [h.nil]; rfl
  | _::_,_,h=>by
    obtain ⟨x,r,rfl,_,t⟩:=h.cons
    rw [List.length_cons,List.length_cons,t.length]
theorem IsDs.get : ∀ {ds : List D} {xs : List V} {i : Nat} {d : D},IsDs K m H ds xs→ds[i]? = some d→∃ x,xs[i]? = some x∧IsD K m H d x
  | [],_,_,_,_,e=>by simp at e
  | d::ds,_,0,d',h,e=>by
    obtain ⟨x,r,rfl,q,_⟩:=h.cons
    have e' : d = d':=by simpa using e
    subst e'
    exact ⟨x,rfl,q⟩
  | d::ds,_,i + 1,d',h,e=>by
    obtain ⟨x,r,rfl,_,t⟩:=h.cons
    obtain ⟨y,e1,e2⟩:=t.get (i:=i) (d:=d') (by simpa using e)
    exact ⟨y,by simpa using e1,e2⟩
theorem IsDs.back : ∀ {ds : List D} {xs : List V} {i : Nat} {x : V},IsDs K m H ds xs→xs[i]? = some x→∃ d,ds[i]? = some d∧IsD K m H d x:=fun {ds xs i x} h e=>by
  have hl:=h.length
  have hi:=(List.getElem?_eq_some_iff.mp e).1
  have e2 : ds[i]? = some (ds[i]'(by omega)):=by simp
  obtain ⟨y,e3,q⟩:=h.get e2
  rw [e] at e3
  cases e3
  exact ⟨_,e2,q⟩
theorem IsDs.append : ∀ {ds es : List D} {xs ys : List V},IsDs K m H ds xs→IsDs K m H es ys→IsDs K m H (ds++es) (xs++ys)
  | [],_,_,_,h,q=>by rw [h.nil]; exact q
  | _::_,_,_,_,h,q=>by
    obtain ⟨x,r,rfl,a,t⟩:=h.cons
    exact mkCons a (t.append q)
theorem IsDs.set : ∀ {ds : List D} {xs : List V} (i : Nat) {d : D} {x : V},IsDs K m H ds xs→IsD K m H d x→IsDs K m H (ds.set i d) (xs.set i x)
  | [],_,_,_,_,h,_=>by rw [h.nil]; exact mkNil
  | _::_,_,0,_,_,h,q=>by
    obtain ⟨x,r,rfl,a,t⟩:=h.cons
    exact mkCons q t
  | _::_,_,i + 1,_,_,h,q=>by
    obtain ⟨x,r,rfl,a,t⟩:=h.cons
    exact mkCons a (t.set i q)
end
def keyOf : D→Option Key
  | .int i=>some (.inl i)
  | .str z=>some (.inr z)
  | _=>none
def IsKV (K : PySem.W.Frag) (m : List Addr) (H : Hp) : List (D × D)→List (Key × V)→Prop
  | [],xs=>xs = []
  | p::r,xs=>∃ k v xr,xs = (k,v)::xr∧keyOf p.1 = some k∧IsD K m H p.2 v∧IsKV K m H r xr
theorem isKV_mono {K : PySem.W.Frag} {m m' : List Addr} {H H' : Hp} (hs : Sub m m') (ht : Tr H H') : ∀ (kvs : List (D × D)) (xs : List (Key × V)),IsKV K m H kvs xs→IsKV K m' H' kvs xs
  | [],_,h=>h
  | p::r,_,⟨k,v,xr,e,hk,hv,hr⟩=>⟨k,v,xr,e,hk,isD_mono hs ht _ _ hv,isKV_mono hs ht r xr hr⟩
theorem IsKV.length {K : PySem.W.Frag} {m : List Addr} {H : Hp} : ∀ {kvs : List (D × D)} {xs : List (Key × V)},IsKV K m H kvs xs→kvs.length = xs.length
  | [],_,h=>by rw [show _ = [] from h]; rfl
  | p::r,_,⟨k,v,xr,e,_,_,hr⟩=>by rw [e,List.length_cons,List.length_cons,hr.length]
theorem eq_key {a b : D} {k j : Key} (ha : keyOf a = some k) (hb : keyOf b = some j) : M.eqT a b = decide (k = j):=by
  cases a with
  | int i =>
    cases ha
    cases b with
    | int i'=>cases hb; rw [M.eqT]; by_cases h : i = i' <;> simp [h]
    | str z=>cases hb; simp [M.eqT]
    | _=>cases hb
  | str z =>
    cases ha
    cases b with
    | int i'=>cases hb; simp [M.eqT]
    | str z'=>cases hb; rw [M.eqT]; by_cases h : z = z' <;> simp [h]
    | _=>cases hb
  | _=>cases ha
theorem key_of {a : D} (h : M.isKey a = true) : ∃ k,keyOf a = some k:=by
  cases a with
  | int i=>exact ⟨_,rfl⟩
  | str z=>exact ⟨_,rfl⟩
  | _=>cases h
theorem key_V {K : PySem.W.Frag} {m : List Addr} {H : Hp} {a : D} {k : Key} {v : V} (h : keyOf a = some k) (i : IsD K m H a v) : v = kV k:=by
  cases a with
  | int i'=>cases h; exact i.int
  | str z=>cases h; exact i.str
  | _=>cases h
theorem IsKV.get {K : PySem.W.Frag} {m : List Addr} {H : Hp} {a : D} {j : Key} (ha : keyOf a = some j) : ∀ {kvs : List (D × D)} {xs : List (Key × V)},IsKV K m H kvs xs→(M.dget kvs a = none∧valV xs j = none)∨∃ d v,M.dget kvs a = some d∧valV xs j = some v∧IsD K m H d v
  | [],_,h=>by rw [show _ = [] from h]; exact .inl ⟨rfl,rfl⟩
  | p::r,_,⟨k,v,xr,e,hk,hv,hr⟩=>by
    subst e
    have eq:=eq_key hk ha
    by_cases hkj : k = j
    · refine .inr ⟨p.2,v,?_,valV_pos (p:=(k,v)) hkj,hv⟩
      rw [decide_eq_true hkj] at eq
      simp [M.dget,List.find?_cons,eq]
    · rw [decide_eq_false hkj] at eq
      have e1 : M.dget (p::r) a = M.dget r a:=by simp [M.dget,List.find?_cons,eq]
      rw [e1,valV_neg (p:=(k,v)) hkj]
      exact hr.get ha
theorem IsKV.any {K : PySem.W.Frag} {m : List Addr} {H : Hp} {a : D} {j : Key} (ha : keyOf a = some j) : ∀ {kvs : List (D × D)} {xs : List (Key × V)},IsKV K m H kvs xs→(kvs.any fun p=>M.eqT p.1 a) = (xs.any fun p=>decide (p.1 = j))
  | [],_,h=>by rw [show _ = [] from h]; rfl
  | p::r,_,⟨k,v,xr,e,hk,hv,hr⟩=>by
    subst e
    rw [List.any_cons,List.any_cons,eq_key hk ha,hr.any ha]
theorem IsKV.repl {K : PySem.W.Frag} {m : List Addr} {H : Hp} {a d : D} {j : Key} {w : V} (ha : keyOf a = some j) (hd : IsD K m H d w) : ∀ {kvs : List (D × D)} {xs : List (Key × V)},IsKV K m H kvs xs→IsKV K m H (kvs.map fun p=>if M.eqT p.1 a then (p.1,d) else p) (xs.map fun p=>if p.1 = j then (p.1,w) else p)
  | [],_,h=>by rw [show _ = [] from h]; rfl
  | p::r,_,⟨k,v,xr,e,hk,hv,hr⟩=>by
    subst e
    have eq:=eq_key hk ha
    rw [List.map_cons,List.map_cons]
    by_cases hkj : k = j
    · rw [decide_eq_true hkj] at eq
      rw [if_pos eq,if_pos hkj]
      exact ⟨k,w,_,rfl,hk,hd,hr.repl ha hd⟩
    · rw [decide_eq_false hkj] at eq
      rw [if_neg (by rw [eq]; nofun),if_neg hkj]
      exact ⟨k,v,_,rfl,hk,hv,hr.repl ha hd⟩
theorem IsKV.snoc {K : PySem.W.Frag} {m : List Addr} {H : Hp} {a d : D} {j : Key} {w : V} (ha : keyOf a = some j) (hd : IsD K m H d w) : ∀ {kvs : List (D × D)} {xs : List (Key × V)},IsKV K m H kvs xs→IsKV K m H (kvs++[(a,d)]) (xs++[(j,w)])
  | [],_,h=>by rw [show _ = [] from h]; exact ⟨j,w,[],rfl,ha,hd,rfl⟩
  | p::r,_,⟨k,v,xr,e,hk,hv,hr⟩=>by
    subst e
    exact ⟨k,v,_,rfl,hk,hv,hr.snoc ha hd⟩
theorem IsKV.put {K : PySem.W.Frag} {m : List Addr} {H : Hp} {a d : D} {j : Key} {w : V} {kvs : List (D × D)} {xs : List (Key × V)} (h : IsKV K m H kvs xs) (ha : keyOf a = some j) (hd : IsD K m H d w) : IsKV K m H (M.dput kvs a d) (putK xs j w):=by
  unfold M.dput putK
  rw [h.any ha]
  split
  · exact h.repl ha hd
  · exact h.snoc ha hd
theorem IsKV.merge {K : PySem.W.Frag} {m : List Addr} {H : Hp} : ∀ {more : List (D × D)} {ms : List (Key × V)} {kvs : List (D × D)} {xs : List (Key × V)},IsKV K m H more ms→IsKV K m H kvs xs→IsKV K m H (more.foldl (fun acc p=>M.dput acc p.1 p.2) kvs) (mergeK xs ms)
  | [],_,kvs,xs,h,q=>by rw [show _ = [] from h]; exact q
  | p::r,_,kvs,xs,⟨k,v,xr,e,hk,hv,hr⟩,q=>by
    subst e
    exact hr.merge (q.put hk hv)
def IsC (K : PySem.W.Frag) (m : List Addr) (H : Hp) : Cell→Addr→Prop
  | .lst true ds,a=>∃ xs,H a = some (.lst xs)∧IsDs K m H ds xs
  | .lst false ds,a=>∃ xs,SqF K H a xs∧IsDs K m H ds xs
  | .dic kvs,a=>∃ xs,H a = some (.dK xs)∧IsKV K m H kvs xs
def Wr : Cell→Bool
  | .lst w _=>w
  | .dic _=>true
structure Rel (K : PySem.W.Frag) (m : List Addr) (st : Store) (H : Hp) : Prop where
  len : m.length = st.length
  nd : ∀ (l l' : Nat) (a : Addr) (c c' : Cell),m[l]? = some a→m[l']? = some a→st[l]? = some c→st[l']? = some c'→Wr c = true→Wr c' = true→l = l'
  cell : ∀ (l : Nat) (c : Cell) (a : Addr),st[l]? = some c→m[l]? = some a→IsC K m H c a
section
variable {K : PySem.W.Frag} {m : List Addr} {st : Store} {H : Hp}
theorem Rel.addr (h : Rel K m st H) {l : Nat} {c : Cell} (e : st[l]? = some c) : ∃ a,m[l]? = some a:=by
  have hl:=(List.getElem?_eq_some_iff.mp e).1
  have:=h.len
  exact ⟨m[l]'(by omega),by simp⟩
theorem IsC.wr {c : Cell} {a : Addr} (h : IsC K m H c a) (w : Wr c = true) : ∃ o,H a = some o:=by
  cases c with
  | lst w' ds =>
    have e : w' = true:=w
    subst e
    obtain ⟨xs,e,_⟩:=h
    exact ⟨_,e⟩
  | dic kvs =>
    obtain ⟨xs,e,_⟩:=h
    exact ⟨_,e⟩
theorem Rel.list (h : Rel K m st H) {l : Nat} {ds : List D} {v : V} (e : M.listAt st l = some ds) (hv : IsD K m H (.loc l) v) : ∃ a xs,m[l]? = some a∧v = .ref a∧SqL K H a xs∧IsDs K m H ds xs:=by
  obtain ⟨a,ha,rfl⟩:=hv.loc
  unfold M.listAt at e
  split at e
  · rename_i w ds' q
    cases e
    have c:=h.cell l _ a q ha
    cases w with
    | true =>
      obtain ⟨xs,e1,e2⟩:=c
      exact ⟨a,xs,ha,rfl,SqL.of e1,e2⟩
    | false =>
      obtain ⟨xs,e1,e2⟩:=c
      exact ⟨a,xs,ha,rfl,e1.sq,e2⟩
  · cases e
theorem Rel.seq (h : Rel K m st H) {d : D} {ds : List D} {v : V} (e : M.seqAt st d = some ds) (hv : IsD K m H d v) : ∃ a xs,True∧v = .ref a∧SqL K H a xs∧IsDs K m H ds xs:=by
  cases d with
  | loc l =>
    obtain ⟨a,xs,_,q⟩:=h.list e hv
    exact ⟨a,xs,trivial,q⟩
  | lst es =>
    cases e
    obtain ⟨a,xs,e,q,r⟩:=hv.lst
    exact ⟨a,xs,trivial,e,q.sq,r⟩
  | _=>cases e
theorem Rel.wlist (h : Rel K m st H) {l : Nat} {ds : List D} {v : V} (e : M.wlistAt st l = some ds) (hv : IsD K m H (.loc l) v) : ∃ a xs,m[l]? = some a∧v = .ref a∧H a = some (.lst xs)∧IsDs K m H ds xs∧st[l]? = some (.lst true ds):=by
  obtain ⟨a,ha,rfl⟩:=hv.loc
  unfold M.wlistAt at e
  split at e
  · rename_i ds' q
    cases e
    obtain ⟨xs,e1,e2⟩:=h.cell l _ a q ha
    exact ⟨a,xs,ha,rfl,e1,e2,q⟩
  · cases e
theorem isC_mono {m' : List Addr} {H' : Hp} (hs : Sub m m') (ht : Tr H H') {c : Cell} {a : Addr} (h : IsC K m H c a) (hw : Wr c = true→H' a = H a) : IsC K m' H' c a:=by
  cases c with
  | lst w ds =>
    cases w with
    | true =>
      obtain ⟨xs,e,q⟩:=h
      exact ⟨xs,(hw rfl).trans e,isDs_mono hs ht ds xs q⟩
    | false =>
      obtain ⟨xs,e,q⟩:=h
      exact ⟨xs,ht.sqF e,isDs_mono hs ht ds xs q⟩
  | dic kvs =>
    obtain ⟨xs,e,q⟩:=h
    exact ⟨xs,(hw rfl).trans e,isKV_mono hs ht kvs xs q⟩
theorem Rel.dict (h : Rel K m st H) {l : Nat} {kvs : List (D × D)} {v : V} (e : M.dicAt st l = some kvs) (hv : IsD K m H (.loc l) v) : ∃ a xs,m[l]? = some a∧v = .ref a∧H a = some (.dK xs)∧IsKV K m H kvs xs∧st[l]? = some (.dic kvs):=by
  obtain ⟨a,ha,rfl⟩:=hv.loc
  unfold M.dicAt at e
  split at e
  · rename_i kvs' q
    cases e
    obtain ⟨xs,e1,e2⟩:=h.cell l _ a q ha
    exact ⟨a,xs,ha,rfl,e1,e2,q⟩
  · cases e
theorem Rel.same (h : Rel K m st H) {H' : Hp} (s : Same H H') : Rel K m st H' :=
  ⟨h.len,h.nd,fun l c a e ea=>isC_mono (Sub.refl m) (Tr.of_same s) (h.cell l c a e ea) fun w=>by
    obtain ⟨xs,q⟩:=(h.cell l c a e ea).wr w
    rw [q]; exact s _ _ q⟩
theorem Rel.newC (h : Rel K m st H) {p : Addr} {o : HO} {c : Cell} (hp : H p = none) (hc : Wr c = true→True) (hd : IsC K (m++[p]) (upd H p o) c p) : Rel K (m++[p]) (st++[c]) (upd H p o):=by
  have ht : Tr H (upd H p o):=Tr.of_same (same_new hp)
  have old : ∀ (l : Nat) (e : Cell) (a : Addr),(st++[c])[l]? = some e→(m++[p])[l]? = some a→(l < st.length∧st[l]? = some e∧m[l]? = some a)∨(l = st.length∧e = c∧a = p):=by
    intro l e a he ea
    by_cases hl : l < st.length
    · rw [List.getElem?_append_left hl] at he
      rw [List.getElem?_append_left (by rw [h.len]; exact hl)] at ea
      exact .inl ⟨hl,he,ea⟩
    · have hlt:=(List.getElem?_eq_some_iff.mp he).1
      rw [List.length_append,List.length_singleton] at hlt
      have e1 : l = st.length:=by omega
      subst e1
      rw [List.getElem?_append_right (Nat.le_refl _)] at he
      rw [List.getElem?_append_right (by rw [h.len]; exact Nat.le_refl _),h.len] at ea
      have e2 : c = e:=by simpa using he
      have e3 : p = a:=by simpa using ea
      exact .inr ⟨rfl,e2.symm,e3.symm⟩
  refine ⟨by simp [h.len],fun l l' a e e' e1 e2 e3 e4 w w'=>?_,fun l e a he ea=>?_⟩
  · rcases old l e a e3 e1 with ⟨h1,q1,r1⟩ | ⟨h1,q1,r1⟩ <;> rcases old l' e' a e4 e2 with ⟨h2,q2,r2⟩ | ⟨h2,q2,r2⟩
    · exact h.nd l l' a e e' r1 r2 q1 q2 w w'
    · obtain ⟨ys,z⟩:=(h.cell l e a q1 r1).wr w
      rw [r2,hp] at z; cases z
    · obtain ⟨ys,z⟩:=(h.cell l' e' a q2 r2).wr w'
      rw [r1,hp] at z; cases z
    · rw [h1,h2]
  · rcases old l e a he ea with ⟨h1,q1,r1⟩ | ⟨h1,q1,r1⟩
    · refine isC_mono (Sub.app m [p]) ht (h.cell l e a q1 r1) fun w=>?_
      obtain ⟨ys,z⟩:=(h.cell l e a q1 r1).wr w
      exact upd_ne (ne_of_none z hp)
    · rw [q1,r1]
      exact hd
theorem Rel.new (h : Rel K m st H) {p : Addr} {ds : List D} {xs : List V} (hp : H p = none) (hd : IsDs K m H ds xs) : Rel K (m++[p]) (st++[.lst true ds]) (upd H p (.lst xs)) :=
  h.newC hp (fun _=>trivial) ⟨xs,upd_same,isDs_mono (Sub.app m [p]) (Tr.of_same (same_new hp)) ds xs hd⟩
theorem Rel.newD (h : Rel K m st H) {p : Addr} {kvs : List (D × D)} {xs : List (Key × V)} (hp : H p = none) (hd : IsKV K m H kvs xs) : Rel K (m++[p]) (st++[.dic kvs]) (upd H p (.dK xs)) :=
  h.newC hp (fun _=>trivial) ⟨xs,upd_same,isKV_mono (Sub.app m [p]) (Tr.of_same (same_new hp)) kvs xs hd⟩
theorem Rel.newLoc (h : Rel K m st H) {p : Addr} {H' : Hp} : IsD K (m++[p]) H' (.loc st.length) (.ref p):=mkLoc (by
  rw [List.getElem?_append_right (by rw [h.len]; exact Nat.le_refl _),h.len]; simp)
theorem Rel.putC (h : Rel K m st H) {l : Nat} {a : Addr} {c c' : Cell} {o : HO} (e : st[l]? = some c) (hw : Wr c = true) (ea : m[l]? = some a) (ht : Tr H (upd H a o)) (hd : IsC K m (upd H a o) c' a) :
    Rel K m (st.set l c') (upd H a o):=by
  have hl:=(List.getElem?_eq_some_iff.mp e).1
  have wr : ∀ (j : Nat) (d : Cell),(st.set l c')[j]? = some d→(j = l∧d = c')∨(j ≠ l∧st[j]? = some d):=by
    intro j d q
    by_cases hj : j = l
    · subst hj
      rw [List.getElem?_set_self hl] at q
      exact .inl ⟨rfl,(Option.some.inj q).symm⟩
    · rw [List.getElem?_set_ne (Ne.symm hj)] at q
      exact .inr ⟨hj,q⟩
  refine ⟨by rw [List.length_set]; exact h.len,fun j j' b d d' e1 e2 e3 e4 w w'=>?_,fun j d b q eb=>?_⟩
  · rcases wr j d e3 with ⟨a1,b1⟩ | ⟨a1,b1⟩ <;> rcases wr j' d' e4 with ⟨a2,b2⟩ | ⟨a2,b2⟩
    · rw [a1,a2]
    · subst a1; exact h.nd _ _ b _ _ e1 e2 e b2 hw w'
    · subst a2; exact h.nd _ _ b _ _ e1 e2 b1 e w hw
    · exact h.nd _ _ b _ _ e1 e2 b1 b2 w w'
  · rcases wr j d q with ⟨a1,b1⟩ | ⟨a1,b1⟩
    · subst a1 b1
      rw [ea] at eb; cases eb
      exact hd
    · refine isC_mono (Sub.refl m) ht (h.cell j d b b1 eb) fun w=>upd_ne fun z=>?_
      subst z
      exact a1 (h.nd _ _ b _ _ eb ea b1 e w hw)
theorem Rel.put (h : Rel K m st H) {l : Nat} {a : Addr} {ds ds' : List D} {xs ys : List V} (e : st[l]? = some (.lst true ds)) (ea : m[l]? = some a) (hH : H a = some (.lst xs)) (hd : IsDs K m H ds' ys) :
    Rel K m (st.set l (.lst true ds')) (upd H a (.lst ys)) :=
  h.putC e rfl ea (Tr.put hH) ⟨ys,upd_same,isDs_mono (Sub.refl m) (Tr.put hH) ds' ys hd⟩
theorem Tr.putD {H : Hp} {p : Addr} {xs ys : List (Key × V)} (hp : H p = some (.dK xs)) : Tr H (upd H p (.dK ys)) :=
  ⟨fun b zs e=>by rw [upd_ne (ne_of e hp (by intro z; cases z))]; exact e,fun b o u e=>by rw [upd_ne (ne_of e hp (by intro z; cases z))]; exact e⟩
theorem Rel.putD (h : Rel K m st H) {l : Nat} {a : Addr} {kvs kvs' : List (D × D)} {xs ys : List (Key × V)} (e : st[l]? = some (.dic kvs)) (ea : m[l]? = some a) (hH : H a = some (.dK xs)) (hd : IsKV K m H kvs' ys) :
    Rel K m (st.set l (.dic kvs')) (upd H a (.dK ys)) :=
  h.putC e rfl ea (Tr.putD hH) ⟨ys,upd_same,isKV_mono (Sub.refl m) (Tr.putD hH) kvs' ys hd⟩
end
structure SlotOk (K : PySem.W.Frag) (m : List Addr) (H : Hp) (τ : Sl) (σ : L2.St) : Prop where
  len : τ.length = σ.length
  at_ : ∀ (i : Nat) (d : D),τ[i]? = some (some d)→∃ v,σ[i]? = some (some v)∧IsD K m H d v
theorem SlotOk.mono {K : PySem.W.Frag} {m m' : List Addr} {H H' : Hp} {τ : Sl} {σ : L2.St} (h : SlotOk K m H τ σ) (s : Sub m m') (t : Tr H H') : SlotOk K m' H' τ σ :=
  ⟨h.len,fun i d e=>let ⟨v,a,b⟩:=h.at_ i d e; ⟨v,a,isD_mono s t d v b⟩⟩
theorem SlotOk.put {K : PySem.W.Frag} {m : List Addr} {H : Hp} {τ : Sl} {σ : L2.St} (h : SlotOk K m H τ σ) {i : Nat} {d : D} {v : V} (q : IsD K m H d v) : SlotOk K m H (τ.set i (some d)) (σ.set i (some v)):=by
  refine ⟨by rw [List.length_set,List.length_set]; exact h.len,fun j e ej=>?_⟩
  by_cases hj : i = j
  · subst hj
    have hi : i < τ.length:=by
      have:=(List.getElem?_eq_some_iff.mp ej).1
      rwa [List.length_set] at this
    rw [List.getElem?_set_self hi] at ej
    cases ej
    exact ⟨v,List.getElem?_set_self (by rw [← h.len]; exact hi),q⟩
  · rw [List.getElem?_set_ne hj] at ej ⊢
    exact h.at_ j e ej
def Post (K : PySem.W.Frag) (m : List Addr) (H : Hp) (d : D) (st' : Store) (Q : VK) : Prop:=∀ v m' H',Sub m m'→Tr H H'→Rel K m' st' H'→IsD K m' H' d v→Q v H'
def PostB (K : PySem.W.Frag) (m : List Addr) (H : Hp) (b : Bool) (st' : Store) (Q : Bool→Hp→Prop) : Prop:=∀ m' H',Sub m m'→Tr H H'→Rel K m' st' H'→Q b H'
def PostL (K : PySem.W.Frag) (m : List Addr) (H : Hp) (ds : List D) (st' : Store) (Q : List V→Hp→Prop) : Prop:=∀ vs m' H',Sub m m'→Tr H H'→Rel K m' st' H'→IsDs K m' H' ds vs→Q vs H'
theorem Post.mono {K : PySem.W.Frag} {m m1 : List Addr} {H H1 : Hp} {d : D} {st' : Store} {Q : VK} (p : Post K m H d st' Q) (s : Sub m m1) (t : Tr H H1) : Post K m1 H1 d st' Q :=
  fun v m' H' s' t' r i=>p v m' H' (s.trans s') (t.trans t') r i
theorem Post.here {K : PySem.W.Frag} {m : List Addr} {H : Hp} {d : D} {st' : Store} {Q : VK} {v : V} (p : Post K m H d st' Q) (r : Rel K m st' H) (i : IsD K m H d v) : Q v H:=p v m H (Sub.refl m) (Tr.refl H) r i
def tD (K : PySem.W.Frag) (f : Sl→Store→Option (D × Store)) : TE:=fun σ H Q=>∃ m st τ d st',Rel K m st H∧SlotOk K m H τ σ∧f τ st = some (d,st')∧Post K m H d st' Q
def tTs (K : PySem.W.Frag) (f : Sl→Store→Option (Bool × Store)) : TT:=fun σ H Q=>∃ m st τ d st',Rel K m st H∧SlotOk K m H τ σ∧f τ st = some (d,st')∧PostB K m H d st' Q
def tL (K : PySem.W.Frag) (f : Sl→Store→Option (List D × Store)) : TA:=fun σ H Q=>∃ m st τ d st',Rel K m st H∧SlotOk K m H τ σ∧f τ st = some (d,st')∧PostL K m H d st' Q
def rD (K : PySem.W.Frag) (g : Store→D→D→Option (D × Store)) : R2:=fun x y H Q=>∃ m st a b d st',Rel K m st H∧IsD K m H a x∧IsD K m H b y∧g st a b = some (d,st')∧Post K m H d st' Q
def rC (K : PySem.W.Frag) (g : Store→List D→Option (D × Store)) : List V→Hp→VK→Prop:=fun xs H Q=>∃ m st ds d st',Rel K m st H∧IsDs K m H ds xs∧g st ds = some (d,st')∧Post K m H d st' Q
def rU1 (K : PySem.W.Frag) (g : Store→D→Option (D × Store)) : V→Hp→VK→Prop:=fun x H Q=>∃ m st a d st',Rel K m st H∧IsD K m H a x∧g st a = some (d,st')∧Post K m H d st' Q
theorem _root_.L2.PE.imp {X : Cx} {e : Expr} {t t' : TE} (h : PE X e t) (f : ∀ σ H Q,t' σ H Q→t σ H Q) : PE X e t':=fun pins s σ H Q I q=>h pins s σ H Q I (f σ H Q q)
theorem _root_.L2.PT.imp {X : Cx} {e : Expr} {t t' : TT} (h : PT X e t) (f : ∀ σ H Q,t' σ H Q→t σ H Q) : PT X e t':=fun pins s σ H Q I q=>h pins s σ H Q I (f σ H Q q)
theorem _root_.L2.PW.imp {X : Cx} {e : Expr} {t t' : TT} (h : PW X e t) (f : ∀ σ H Q,t' σ H Q→t σ H Q) : PW X e t':=fun w pins s σ H Q I q=>h w pins s σ H Q I (f σ H Q q)
theorem _root_.L2.PA.imp {X : Cx} {e : List Expr} {t t' : TA} (h : PA X e t) (f : ∀ σ H Q,t' σ H Q→t σ H Q) : PA X e t':=fun p pins s σ H Q I q=>h p pins s σ H Q I (f σ H Q q)
theorem _root_.L2.PS.imp {X : Cx} {e : Stmt} {t t' : TS} (h : PS X e t) (f : ∀ σ H Q,t' σ H Q→t σ H Q) : PS X e t':=fun pins s σ H Q I q=>h pins s σ H Q I (f Q σ H q)
theorem _root_.L2.PSs.imp {X : Cx} {e : List Stmt} {t t' : TS} (h : PSs X e t) (f : ∀ D σ H,t' D σ H→t D σ H) : PSs X e t':=fun pins s σ H D I q=>h pins s σ H D I (f D σ H q)
theorem bindD {α : Type} {f : Option (D × Store)} {g : D × Store→Option α} {r : α} (e : f.bind g = some r) : ∃ d st,f = some (d,st)∧g (d,st) = some r:=by
  cases f with
  | none=>cases e
  | some p=>exact ⟨p.1,p.2,rfl,e⟩
theorem mapD {α β : Type} {f : Option α} {g : α→β} {r : β} (e : f.map g = some r) : ∃ d,f = some d∧g d = r:=by
  cases f with
  | none=>cases e
  | some p=>exact ⟨p,rfl,Option.some.inj e⟩
theorem bindO {α β : Type} {f : Option α} {g : α→Option β} {r : β} (e : f.bind g = some r) : ∃ d,f = some d∧g d = some r:=by
  cases f with
  | none=>cases e
  | some p=>exact ⟨p,rfl,e⟩
section
variable {K : PySem.W.Frag}
theorem tD_bin {fa fb : Sl→Store→Option (D × Store)} {g : Store→D→D→Option (D × Store)} {σ : L2.St} {H : Hp} {Q : VK}
    (h : tD K (fun τ st=>(fa τ st).bind fun p=>(fb τ p.2).bind fun q=>g q.2 p.1 q.1) σ H Q) : tOp (rD K g) (tD K fa) (tD K fb) σ H Q:=by
  obtain ⟨m,st,τ,d,st',R0,S0,e,q⟩:=h
  obtain ⟨d1,s1,e1,e⟩:=bindD e
  obtain ⟨d2,s2,e2,e⟩:=bindD e
  exact ⟨m,st,τ,d1,s1,R0,S0,e1,fun x m1 H1 b1 t1 R1 i1=>⟨m1,s1,τ,d2,s2,R1,S0.mono b1 t1,e2,fun y m2 H2 b2 t2 R2 i2 =>
    ⟨m2,s2,d1,d2,d,st',R2,isD_mono b2 t2 _ _ i1,i2,e,q.mono (b1.trans b2) (t1.trans t2)⟩⟩⟩
theorem tD_un {fa : Sl→Store→Option (D × Store)} {g : Store→D→Option (D × Store)} {σ : L2.St} {H : Hp} {Q : VK}
    (h : tD K (fun τ st=>(fa τ st).bind fun p=>g p.2 p.1) σ H Q) : tUn (rU1 K g) (tD K fa) σ H Q:=by
  obtain ⟨m,st,τ,d,st',R0,S0,e,q⟩:=h
  obtain ⟨d1,s1,e1,e⟩:=bindD e
  exact ⟨m,st,τ,d1,s1,R0,S0,e1,fun x m1 H1 b1 t1 R1 i1=>⟨m1,s1,d1,d,st',R1,i1,e,q.mono b1 t1⟩⟩
theorem tL_cons {fa : Sl→Store→Option (D × Store)} {fr : Sl→Store→Option (List D × Store)} {σ : L2.St} {H : Hp} {Q : List V→Hp→Prop}
    (h : tL K (fun τ st=>(fa τ st).bind fun p=>(fr τ p.2).bind fun q=>some (p.1::q.1,q.2)) σ H Q) : tCons (tD K fa) (tL K fr) σ H Q:=by
  obtain ⟨m,st,τ,d,st',R0,S0,e,q⟩:=h
  obtain ⟨d1,s1,e1,e⟩:=bindD e
  obtain ⟨p,e2,e⟩:=bindO e
  cases e
  exact ⟨m,st,τ,d1,s1,R0,S0,e1,fun x m1 H1 b1 t1 R1 i1=>⟨m1,s1,τ,p.1,p.2,R1,S0.mono b1 t1,e2,fun xs m2 H2 b2 t2 R2 i2 =>
    q _ m2 H2 (b1.trans b2) (t1.trans t2) R2 (mkCons (isD_mono b2 t2 _ _ i1) i2)⟩⟩
theorem tL_nil {σ : L2.St} {H : Hp} {Q : List V→Hp→Prop} (h : tL K (fun _ st=>some ([],st)) σ H Q) : tNil σ H Q:=by
  obtain ⟨m,st,τ,d,st',R0,S0,e,q⟩:=h
  cases e
  exact q [] m H (Sub.refl m) (Tr.refl H) R0 mkNil
theorem tL_call {fa : Sl→Store→Option (List D × Store)} {g : Store→List D→Option (D × Store)} {σ : L2.St} {H : Hp} {Q : VK}
    (h : tD K (fun τ st=>(fa τ st).bind fun p=>g p.2 p.1) σ H Q) : tCB (rC K g) (tL K fa) σ H Q:=by
  obtain ⟨m,st,τ,d,st',R0,S0,e,q⟩:=h
  obtain ⟨p,e1,e⟩:=bindO e
  exact ⟨m,st,τ,p.1,p.2,R0,S0,e1,fun xs m1 H1 b1 t1 R1 i1=>⟨m1,p.2,p.1,d,st',R1,i1,e,q.mono b1 t1⟩⟩
end
end MS
end
section
set_option linter.all false
set_option Elab.async false
set_option maxRecDepth 100000
set_option maxHeartbeats 4000000
namespace MS
open PySem PySem.Spec PyProof.Rows L2
open M (D Cell Store Sl)
section
variable {X : Cx}
theorem lim_eq : (sizeLine : Nat) = M.lim:=sizeLine_eq
theorem op_fdiv64 : OpR X (binaryOp .FloorDiv) (rI (fun _ j=>0 < j∧j < 2 ^ 64) fun i j=>.int (i / j)):=opI fun i j _ _ _ _ _ hc q=>by
  have h1 : (0 : Int) < j:=hc.1
  have h2 : j < 2 ^ 64:=hc.2
  refine floordiv_int (by omega) (by rw [Int.fdiv_eq_ediv_of_nonneg i (by omega)]; exact q) (.inl (PyProof.noPylong_of_log2 ?_))
  have h3 : j.natAbs < 2 ^ 64:=by omega
  have h4 : j.natAbs ≠ 0:=by omega
  have h5 : j.natAbs.log2 < 64:=(Nat.log2_lt h4).mpr h3
  omega
theorem _root_.MS.IsDs.rep {K : PySem.W.Frag} {m : List Addr} {H : Hp} {ds : List D} {xs : List V} (h : IsDs K m H ds xs) : ∀ k : Nat,IsDs K m H (List.replicate k ds).flatten (List.replicate k xs).flatten
  | 0=>by simp only [List.replicate_zero,List.flatten_nil]; exact mkNil
  | k + 1=>by
    rw [List.replicate_succ,List.replicate_succ,List.flatten_cons,List.flatten_cons]
    exact h.append (IsDs.rep h k)
theorem op_catS {pins : List (Addr × Obj)} {s : Shared} {σ : L2.St} {H : Hp} {Q : VK} {l b : Addr} {xs ys : List V} (I : Inv X pins σ H s) (hq : SqL X.K H l xs) (hq' : SqL X.K H b ys) (hz : xs.length + ys.length ≤ sizeLine) (q : ∀ p,H p = none→Q (.ref p) (upd H p (.lst (xs++ys)))) :
    wpAny (model X.prog X.w) X.A (binaryOp .Add (.ref l) (.ref b)) (EP X pins σ Q) X.xe s:=by
  obtain ⟨vs,r1,pl,_⟩:=I.list hq
  obtain ⟨ws,r2,pl2,_⟩:=I.list hq'
  have l1:=r1.length
  have l2:=r2.length
  obtain ⟨⟨cls,dd,data,sl⟩,n,ho,hc,hdd,hd⟩:=pl
  obtain ⟨⟨cls2,dd2,data2,sl2⟩,n2,ho2,hc2,hdd2,hd2⟩:=pl2
  simp only at hc hd hc2 hd2
  subst hc hd hc2 hd2
  have e : vs.toArray++ws.toArray = (vs++ws).toArray:=by simp
  refine concat_meets ⟨_,ho,rfl⟩ ⟨_,ho2,rfl⟩ noFill_list_add seq_list_add PySem.F.slot_list_add PySem.F.entry_list_add (PySem.F.args_list_add_2 _ _) (list_addW l b vs.toArray ws.toArray n n2 dd dd2 sl sl2 (by simp; omega)) ⟨ho,ho2,?_⟩
  rw [e]
  exact ⟨.ref _,_,I.lnew (t':=s.toks) (r1.append r2) (by rw [List.length_append]; omega),rfl,q _ I.fresh⟩
theorem op_binD (op : Operator) : OpR X (binaryOp op) (rD X.K fun st a b=>M.binop st op a b):=by
  intro pins s σ H x y v u Q I rx ry h
  obtain ⟨m,st,a,b,d,st',R0,i1,i2,e,q⟩:=h
  have e : M.binop st op a b = some (d,st'):=e
  unfold M.binop at e
  split at e
  · cases e
    exact op_add pins s σ H x y v u Q I rx ry ⟨_,_,i1.int,i2.int,q.here R0 (mkInt _)⟩
  · rename_i as bs
    split at e
    · cases e
    · rename_i hc
      cases e
      rw [Bool.or_eq_true,decide_eq_true_eq,not_or,List.isEmpty_iff] at hc
      obtain ⟨pa,xs,rfl,hx,ix⟩:=i1.tup
      obtain ⟨pb,ys,rfl,hy,iy⟩:=i2.tup
      have l1:=ix.length
      have l2:=iy.length
      have l3:=lim_eq
      refine op_catT pins s σ H _ _ v u Q I rx ry ⟨pa,pb,xs,ys,rfl,rfl,hx,hy,?_,by omega,fun z=>?_,fun z p hp=>?_⟩
      · intro z
        subst z
        exact hc.1 (List.length_eq_zero_iff.mp l1)
      · have i3:=ix.append iy
        rw [z,List.append_nil] at i3
        exact q.here R0 (mkTup hx i3)
      · have sm:=same_new (o:=.tup (xs++ys)) hp
        exact q _ m _ (Sub.refl m) (Tr.of_same sm) (R0.same sm) (mkTup (SqT.of upd_same) (isDs_mono (Sub.refl m) (Tr.of_same sm) _ _ (ix.append iy)))
  · split at e
    · cases e
    · rename_i hc
      cases e
      have l3:=lim_eq
      exact op_add_str pins s σ H x y v u Q I rx ry ⟨_,_,i1.str,i2.str,by omega,q.here R0 (mkStr _)⟩
  · rename_i la lb _ _ _
    obtain ⟨ds1,e1,e⟩:=bindO e
    obtain ⟨ds2,e2,e⟩:=bindO e
    split at e
    · cases e
    · rename_i hc
      cases e
      obtain ⟨pa,xs,_,rfl,hx,ix⟩:=R0.seq e1 i1
      obtain ⟨pb,ys,_,rfl,hy,iy⟩:=R0.seq e2 i2
      have l1:=ix.length
      have l2:=iy.length
      have l3:=lim_eq
      cases rx
      cases ry
      refine op_catS I hx hy (by omega) fun p hp=>?_
      exact q _ (m++[p]) _ (Sub.app m [p]) (Tr.of_same (same_new hp)) (R0.new hp (ix.append iy)) R0.newLoc
  · cases e
    exact op_sub pins s σ H x y v u Q I rx ry ⟨_,_,i1.int,i2.int,q.here R0 (mkInt _)⟩
  · split at e
    · rename_i hc
      cases e
      refine op_mul pins s σ H x y v u Q I rx ry ⟨_,_,i1.int,i2.int,?_,q.here R0 (mkInt _)⟩
      unfold M.mulOk at hc
      simp only [Bool.or_eq_true,Bool.and_eq_true,decide_eq_true_eq] at hc
      exact hc
    · cases e
  · rename_i as k _
    split at e
    · cases e
    · rename_i hc
      cases e
      simp only [Bool.or_eq_true,decide_eq_true_eq,not_or] at hc
      obtain ⟨pa,xs,rfl,hx,ix⟩:=i1.tup
      have l1:=ix.length
      have l3:=lim_eq
      refine op_repT pins s σ H _ _ v u Q I rx ry ⟨pa,k,xs,rfl,i2.int,hx,by omega,by omega,by rw [← l1]; omega,fun ys hy=>⟨fun z=>?_,fun p hp=>?_⟩⟩
      · have i3:=ix.rep k.toNat
        rw [← hy,z] at i3
        exact q.here R0 (mkTup hx i3)
      · have sm:=same_new (o:=.tup ys) hp
        have i3:=ix.rep k.toNat
        rw [← hy] at i3
        exact q _ m _ (Sub.refl m) (Tr.of_same sm) (R0.same sm) (mkTup (SqT.of upd_same) (isDs_mono (Sub.refl m) (Tr.of_same sm) _ _ i3))
  · rename_i la k _
    obtain ⟨ds1,e1,e⟩:=bindO e
    split at e
    · cases e
    · rename_i hc
      cases e
      simp only [Bool.or_eq_true,decide_eq_true_eq,not_or] at hc
      obtain ⟨pa,xs,m1,rfl,hx,ix,_⟩:=R0.wlist e1 i1
      have l1:=ix.length
      have l3:=lim_eq
      refine op_rep pins s σ H _ _ v u Q I rx ry ⟨pa,k,xs,rfl,i2.int,hx,by omega,by omega,by rw [← l1]; omega,fun p hp=>?_⟩
      exact q _ (m++[p]) _ (Sub.app m [p]) (Tr.of_same (same_new hp)) (R0.new hp (ix.rep k.toNat)) R0.newLoc
  · split at e
    · rename_i hc
      cases e
      exact op_fdiv64 pins s σ H x y v u Q I rx ry ⟨_,_,i1.int,i2.int,hc,q.here R0 (mkInt _)⟩
    · cases e
  · split at e
    · rename_i hc
      cases e
      exact op_mod pins s σ H x y v u Q I rx ry ⟨_,_,i1.int,i2.int,hc,q.here R0 (mkInt _)⟩
    · cases e
  · split at e
    · rename_i hc
      cases e
      exact op_pow pins s σ H x y v u Q I rx ry ⟨_,_,i1.int,i2.int,⟨hc.1,by omega,hc.2.2⟩,q.here R0 (mkInt _)⟩
    · cases e
  · cases e
theorem isD_tuple {pins : List (Addr × Obj)} {σ : L2.St} {H : Hp} {s : Shared} {m : List Addr} {ds : List D} {v : V} (I : Inv X pins σ H s) (h : IsD X.K m H (.tup ds) v) : ∃ a xs its,v = .ref a∧SqT X.K H a xs∧IsDs X.K m H ds xs∧Vals xs its∧IsTup s.heap a its.toArray:=by
  obtain ⟨a,xs,rfl,hx,ix⟩:=h.tup
  obtain ⟨its,r,p,_⟩:=I.tuple hx
  exact ⟨a,xs,its,rfl,hx,ix,r,p⟩
section
variable {pins : List (Addr × Obj)} {σ : L2.St} {H : Hp} {s : Shared} {m : List Addr}
mutual
theorem isD_inj (I : Inv X pins σ H s) : ∀ (n : Nat) (d e : D) (v : V),M.flat n d = true→M.flat n e = true→IsD X.K m H d v→IsD X.K m H e v→d = e
  | n,.loc _,_,_,f,_,_,_=>by simp [M.flat] at f
  | n,.lst _,_,_,f,_,_,_=>by simp [M.flat] at f
  | n,.non,e,v,_,fe,h,h'=>by
    rw [h.non] at h'
    cases e with
    | non=>rfl
    | tup ds=>obtain ⟨a,xs,z,_⟩:=h'.tup; cases z
    | loc l=>simp [M.flat] at fe
    | lst _=>simp [M.flat] at fe
    | bl b=>cases h'.bl
    | int b=>cases h'.int
    | str b=>cases h'.str
  | n,.bl b,e,v,_,fe,h,h'=>by
    rw [h.bl] at h'
    cases e with
    | non=>cases h'.non
    | tup ds=>obtain ⟨a,xs,z,_⟩:=h'.tup; cases z
    | loc l=>simp [M.flat] at fe
    | lst _=>simp [M.flat] at fe
    | bl b=>cases h'.bl; rfl
    | int b=>cases h'.int
    | str b=>cases h'.str
  | n,.int b,e,v,_,fe,h,h'=>by
    rw [h.int] at h'
    cases e with
    | non=>cases h'.non
    | tup ds=>obtain ⟨a,xs,z,_⟩:=h'.tup; cases z
    | loc l=>simp [M.flat] at fe
    | lst _=>simp [M.flat] at fe
    | bl b=>cases h'.bl
    | int b=>cases h'.int; rfl
    | str b=>cases h'.str
  | n,.str b,e,v,_,fe,h,h'=>by
    rw [h.str] at h'
    cases e with
    | non=>cases h'.non
    | tup ds=>obtain ⟨a,xs,z,_⟩:=h'.tup; cases z
    | loc l=>simp [M.flat] at fe
    | lst _=>simp [M.flat] at fe
    | bl b=>cases h'.bl
    | int b=>cases h'.int
    | str b=>cases h'.str; rfl
  | 0,.tup ds,e,v,f,fe,h,h'=>by simp [M.flat] at f
  | n + 1,.tup ds,e,v,f,fe,h,h'=>by
    obtain ⟨a,xs,rfl,hx,ix⟩:=h.tup
    cases e with
    | non=>cases h'.non
    | tup es =>
      obtain ⟨b,ys,z,hy,iy⟩:=h'.tup
      cases z
      have:=I.tuple_inj hx hy
      subst this
      simp only [M.flat] at f fe
      rw [isDs_inj I n ds es xs f fe ix iy]
    | loc l=>simp [M.flat] at fe
    | lst _=>simp [M.flat] at fe
    | bl b=>cases h'.bl
    | int b=>cases h'.int
    | str b=>cases h'.str
theorem isDs_inj (I : Inv X pins σ H s) : ∀ (n : Nat) (ds es : List D) (xs : List V),M.flats n ds = true→M.flats n es = true→IsDs X.K m H ds xs→IsDs X.K m H es xs→ds = es
  | n,[],es,xs,_,_,h,h'=>by
    rw [h.nil] at h'
    exact (List.length_eq_zero_iff.mp h'.length).symm
  | n,d::ds,es,xs,f,fe,h,h'=>by
    obtain ⟨x,r,rfl,q,t⟩:=h.cons
    cases es with
    | nil=>cases h'.nil
    | cons e es =>
      obtain ⟨x',r',z,q',t'⟩:=h'.cons
      cases z
      simp only [M.flats,Bool.and_eq_true] at f fe
      rw [isD_inj I n d e x f.1 fe.1 q q',isDs_inj I n ds es r f.2 fe.2 t t']
end
mutual
theorem eqT_refl : ∀ (n : Nat) (d : D),M.flat n d = true→M.eqT d d = true
  | n,.loc _,f=>by simp [M.flat] at f
  | n,.lst _,f=>by simp [M.flat] at f
  | n,.non,_=>rfl
  | n,.bl b,_=>by simp [M.eqT]
  | n,.int b,_=>by simp [M.eqT]
  | n,.str b,_=>by simp [M.eqT]
  | 0,.tup ds,f=>by simp [M.flat] at f
  | n + 1,.tup ds,f=>by
    simp only [M.flat] at f
    simp only [M.eqT]
    exact eqTs_refl n ds f
theorem eqTs_refl : ∀ (n : Nat) (ds : List D),M.flats n ds = true→M.eqTs ds ds = true
  | n,[],_=>rfl
  | n,d::ds,f=>by
    simp only [M.flats,Bool.and_eq_true] at f
    simp only [M.eqTs,eqT_refl n d f.1,eqTs_refl n ds f.2,Bool.and_self]
end
def pairE (ds es : List D) (j : Nat) : Bool:=match ds[j]?,es[j]? with
  | some d,some e=>M.eqT d e
  | _,_=>true
theorem eqTs_pair : ∀ (ds es : List D),M.eqTs ds es = ((List.range (min ds.length es.length)).all (pairE ds es) && ds.length == es.length)
  | [],[]=>rfl
  | [],e::es=>by simp [M.eqTs]
  | d::ds,[]=>by simp [M.eqTs]
  | d::ds,e::es=>by
    simp only [M.eqTs]
    rw [eqTs_pair ds es,List.length_cons,List.length_cons,Nat.add_min_add_right,List.range_succ_eq_map,List.all_cons,List.all_map,Bool.and_assoc]
    congr 1
    congr 1
    rw [Bool.eq_iff_iff,beq_iff_eq,beq_iff_eq]
    omega
theorem eqTs_same {ds es : List D} (h : ds.length = es.length) : M.eqTs ds es = (List.range ds.length).all (pairE ds es):=by
  rw [eqTs_pair,h,Nat.min_self]
  simp
theorem eqAt_D (I : Inv X pins σ H s) : ∀ (n : Nat) (A : Around) (d e : D) (x y : V) (u v : Value),A.units + n < cLine→M.flat n d = true→M.flat n e = true→IsD X.K m H d x→IsD X.K m H e y→RelV x u→RelV y v →
    SeqAt.EqAt A s u v (M.eqT d e)∧SeqAt.RcAt A s u v (M.eqT d e):=by
  intro n
  induction n with
  | zero =>
    intro A d e x y u v hu f fe hx hy rx ry
    have hu0 : A.units < cLine:=by omega
    cases d with
    | loc _=>simp [M.flat] at f
    | lst _=>simp [M.flat] at f
    | tup _=>simp [M.flat] at f
    | non =>
      cases hx.non; cases rx
      cases e with
      | loc _=>simp [M.flat] at fe
      | lst _=>simp [M.flat] at fe
      | tup _=>simp [M.flat] at fe
      | non=>cases hy.non; cases ry; exact ⟨SeqAt.EqAt.same _,SeqAt.RcAt.none_none⟩
      | bl b=>cases hy.bl; cases ry; exact ⟨SeqAt.EqAt.none_bool b,SeqAt.RcAt.none_bool b⟩
      | int b=>cases hy.int; obtain ⟨t,rfl⟩:=ry; exact ⟨SeqAt.EqAt.none_int b t,SeqAt.RcAt.none_int b t⟩
      | str b=>cases hy.str; obtain ⟨t,rfl⟩:=ry; exact ⟨SeqAt.EqAt.none_str b t,SeqAt.RcAt.none_str b t⟩
    | bl a =>
      cases hx.bl; cases rx
      cases e with
      | loc _=>simp [M.flat] at fe
      | lst _=>simp [M.flat] at fe
      | tup _=>simp [M.flat] at fe
      | non=>cases hy.non; cases ry; exact ⟨SeqAt.EqAt.bool_none a,SeqAt.RcAt.bool_none a⟩
      | bl b=>cases hy.bl; cases ry; exact ⟨SeqAt.EqAt.bool_bool a b,SeqAt.RcAt.bool_bool a b⟩
      | int b=>cases hy.int; obtain ⟨t,rfl⟩:=ry; exact ⟨SeqAt.EqAt.bool_int a b t,SeqAt.RcAt.bool_int a b t⟩
      | str b=>cases hy.str; obtain ⟨t,rfl⟩:=ry; exact ⟨SeqAt.EqAt.bool_str a b t,SeqAt.RcAt.bool_str a b t⟩
    | int a =>
      cases hx.int; obtain ⟨t',rfl⟩:=rx
      cases e with
      | loc _=>simp [M.flat] at fe
      | lst _=>simp [M.flat] at fe
      | tup _=>simp [M.flat] at fe
      | non=>cases hy.non; cases ry; exact ⟨SeqAt.EqAt.int_none a t',SeqAt.RcAt.int_none a t'⟩
      | bl b=>cases hy.bl; cases ry; exact ⟨SeqAt.EqAt.int_bool a t' b,SeqAt.RcAt.int_bool a t' b⟩
      | int b=>cases hy.int; obtain ⟨t,rfl⟩:=ry; exact ⟨SeqAt.EqAt.int_int a t' b t,SeqAt.RcAt.int_int a t' b t⟩
      | str b=>cases hy.str; obtain ⟨t,rfl⟩:=ry; exact ⟨SeqAt.EqAt.int_str a t' b t,SeqAt.RcAt.int_str a t' b t⟩
    | str a =>
      cases hx.str; obtain ⟨t',rfl⟩:=rx
      cases e with
      | loc _=>simp [M.flat] at fe
      | lst _=>simp [M.flat] at fe
      | tup _=>simp [M.flat] at fe
      | non=>cases hy.non; cases ry; exact ⟨SeqAt.EqAt.str_none a t',SeqAt.RcAt.str_none a t'⟩
      | bl b=>cases hy.bl; cases ry; exact ⟨SeqAt.EqAt.str_bool a t' b,SeqAt.RcAt.str_bool a t' b⟩
      | int b=>cases hy.int; obtain ⟨t,rfl⟩:=ry; exact ⟨SeqAt.EqAt.str_int a t' b t,SeqAt.RcAt.str_int a t' b t⟩
      | str b=>cases hy.str; obtain ⟨t,rfl⟩:=ry; exact ⟨SeqAt.EqAt.str_str a t' b t,SeqAt.RcAt.str_str a t' b t⟩
  | succ n ih =>
    intro A d e x y u v hu f fe hx hy rx ry
    have hu0 : A.units < cLine:=by omega
    cases d with
    | loc _=>simp [M.flat] at f
    | lst _=>simp [M.flat] at f
    | tup ds =>
      obtain ⟨a,xs,its,rfl,hq,ix,r1,p1⟩:=isD_tuple I hx
      cases rx
      cases e with
      | loc _=>simp [M.flat] at fe
      | lst _=>simp [M.flat] at fe
      | non=>cases hy.non; cases ry; exact ⟨SeqAt.EqAt.tuple_none p1 hu0,SeqAt.RcAt.tuple_none p1 hu0⟩
      | bl b=>cases hy.bl; cases ry; exact ⟨SeqAt.EqAt.tuple_bool b p1 hu0,SeqAt.RcAt.tuple_bool b p1 hu0⟩
      | int b=>cases hy.int; obtain ⟨t,rfl⟩:=ry; exact ⟨SeqAt.EqAt.tuple_int b t p1 hu0,SeqAt.RcAt.tuple_int b t p1 hu0⟩
      | str b=>cases hy.str; obtain ⟨t,rfl⟩:=ry; exact ⟨SeqAt.EqAt.tuple_str b t p1 hu0,SeqAt.RcAt.tuple_str b t p1 hu0⟩
      | tup es =>
        obtain ⟨b,ys,its2,rfl,hq2,iy,r2,p2⟩:=isD_tuple I hy
        cases ry
        have l1:=ix.length
        have l2:=iy.length
        have l3:=r1.length
        have l4:=r2.length
        simp only [M.flat] at f fe
        have he : ∀ j (h1 : j < its.toArray.size) (h2 : j < its2.toArray.size),SeqAt.EqAt A.in1 s its.toArray[j] its2.toArray[j] (pairE ds es j):=by
          intro j h1 h2
          rw [List.size_toArray] at h1 h2
          have j1 : j < ds.length:=by omega
          have j2 : j < es.length:=by omega
          have g1 : ds[j]? = some ds[j]:=by simp
          have g2 : es[j]? = some es[j]:=by simp
          obtain ⟨x1,k1,q1⟩:=ix.get g1
          obtain ⟨x2,k2,q2⟩:=iy.get g2
          obtain ⟨u1,w1,z1⟩:=r1.get k1
          obtain ⟨u2,w2,z2⟩:=r2.get k2
          have fl : ∀ (l : List D) (k : Nat) (hk : k < l.length),M.flats n l = true→M.flat n l[k] = true:=by
            intro l
            induction l with
            | nil=>intro k hk; cases hk
            | cons c l ihl =>
              intro k hk hf
              simp only [M.flats,Bool.and_eq_true] at hf
              cases k with
              | zero=>exact hf.1
              | succ k=>exact ihl k (by simpa using hk) hf.2
          have:=(ih A.in1 ds[j] es[j] x1 x2 u1 u2 (by have hz : A.in1.units = A.units + 1:=rfl; omega) (fl ds j j1 f) (fl es j j2 fe) q1 q2 z1 z2).1
          have e1 : its.toArray[j] = u1:=by
            have : its[j]? = some its[j]:=by simp
            rw [w1] at this
            simpa using (Option.some.inj this).symm
          have e2 : its2.toArray[j] = u2:=by
            have : its2[j]? = some its2[j]:=by simp
            rw [w2] at this
            simpa using (Option.some.inj this).symm
          rw [e1,e2]
          have e3 : pairE ds es j = M.eqT ds[j] es[j]:=by
            unfold pairE
            rw [g1,g2]
          rw [e3]
          exact this
        have rc : SeqAt.RcAt A s (.ref a) (.ref b) (M.eqT (.tup ds) (.tup es)):=by
          have:=SeqAt.RcAt.tuples p1 p2 hu0 he
          simp only [M.eqT]
          rw [eqTs_pair,l1,l2,l3,l4]
          simpa using this
        refine ⟨?_,rc⟩
        by_cases hab : a = b
        · subst hab
          have:=I.tuple_inj hq hq2
          subst this
          have e0:=isDs_inj I n ds es xs f fe ix iy
          subst e0
          have e1 : M.eqT (.tup ds) (.tup ds) = true:=by
            simp only [M.eqT]
            exact eqTs_refl n ds f
          rw [e1]
          exact SeqAt.EqAt.same _
        · exact SeqAt.EqAt.of_refs hab rc
    | non =>
      cases hx.non; cases rx
      cases e with
      | loc _=>simp [M.flat] at fe
      | lst _=>simp [M.flat] at fe
      | tup es =>
        obtain ⟨b,ys,its2,rfl,hq2,iy,r2,p2⟩:=isD_tuple I hy
        cases ry
        exact ⟨SeqAt.EqAt.none_tuple p2 hu0,SeqAt.RcAt.none_tuple p2 hu0⟩
      | non=>cases hy.non; cases ry; exact ⟨SeqAt.EqAt.same _,SeqAt.RcAt.none_none⟩
      | bl b=>cases hy.bl; cases ry; exact ⟨SeqAt.EqAt.none_bool b,SeqAt.RcAt.none_bool b⟩
      | int b=>cases hy.int; obtain ⟨t,rfl⟩:=ry; exact ⟨SeqAt.EqAt.none_int b t,SeqAt.RcAt.none_int b t⟩
      | str b=>cases hy.str; obtain ⟨t,rfl⟩:=ry; exact ⟨SeqAt.EqAt.none_str b t,SeqAt.RcAt.none_str b t⟩
    | bl a =>
      cases hx.bl; cases rx
      cases e with
      | loc _=>simp [M.flat] at fe
      | lst _=>simp [M.flat] at fe
      | tup es =>
        obtain ⟨b,ys,its2,rfl,hq2,iy,r2,p2⟩:=isD_tuple I hy
        cases ry
        exact ⟨SeqAt.EqAt.bool_tuple a p2 hu0,SeqAt.RcAt.bool_tuple a p2 hu0⟩
      | non=>cases hy.non; cases ry; exact ⟨SeqAt.EqAt.bool_none a,SeqAt.RcAt.bool_none a⟩
      | bl b=>cases hy.bl; cases ry; exact ⟨SeqAt.EqAt.bool_bool a b,SeqAt.RcAt.bool_bool a b⟩
      | int b=>cases hy.int; obtain ⟨t,rfl⟩:=ry; exact ⟨SeqAt.EqAt.bool_int a b t,SeqAt.RcAt.bool_int a b t⟩
      | str b=>cases hy.str; obtain ⟨t,rfl⟩:=ry; exact ⟨SeqAt.EqAt.bool_str a b t,SeqAt.RcAt.bool_str a b t⟩
    | int a =>
      cases hx.int; obtain ⟨t',rfl⟩:=rx
      cases e with
      | loc _=>simp [M.flat] at fe
      | lst _=>simp [M.flat] at fe
      | tup es =>
        obtain ⟨b,ys,its2,rfl,hq2,iy,r2,p2⟩:=isD_tuple I hy
        cases ry
        exact ⟨SeqAt.EqAt.int_tuple a t' p2 hu0,SeqAt.RcAt.int_tuple a t' p2 hu0⟩
      | non=>cases hy.non; cases ry; exact ⟨SeqAt.EqAt.int_none a t',SeqAt.RcAt.int_none a t'⟩
      | bl b=>cases hy.bl; cases ry; exact ⟨SeqAt.EqAt.int_bool a t' b,SeqAt.RcAt.int_bool a t' b⟩
      | int b=>cases hy.int; obtain ⟨t,rfl⟩:=ry; exact ⟨SeqAt.EqAt.int_int a t' b t,SeqAt.RcAt.int_int a t' b t⟩
      | str b=>cases hy.str; obtain ⟨t,rfl⟩:=ry; exact ⟨SeqAt.EqAt.int_str a t' b t,SeqAt.RcAt.int_str a t' b t⟩
    | str a =>
      cases hx.str; obtain ⟨t',rfl⟩:=rx
      cases e with
      | loc _=>simp [M.flat] at fe
      | lst _=>simp [M.flat] at fe
      | tup es =>
        obtain ⟨b,ys,its2,rfl,hq2,iy,r2,p2⟩:=isD_tuple I hy
        cases ry
        exact ⟨SeqAt.EqAt.str_tuple a t' p2 hu0,SeqAt.RcAt.str_tuple a t' p2 hu0⟩
      | non=>cases hy.non; cases ry; exact ⟨SeqAt.EqAt.str_none a t',SeqAt.RcAt.str_none a t'⟩
      | bl b=>cases hy.bl; cases ry; exact ⟨SeqAt.EqAt.str_bool a t' b,SeqAt.RcAt.str_bool a t' b⟩
      | int b=>cases hy.int; obtain ⟨t,rfl⟩:=ry; exact ⟨SeqAt.EqAt.str_int a t' b t,SeqAt.RcAt.str_int a t' b t⟩
      | str b=>cases hy.str; obtain ⟨t,rfl⟩:=ry; exact ⟨SeqAt.EqAt.str_str a t' b t,SeqAt.RcAt.str_str a t' b t⟩
theorem flats_get : ∀ {n : Nat} {l : List D} {k : Nat} {d : D},M.flats n l = true→l[k]? = some d→M.flat n d = true
  | _,[],_,_,_,e=>by simp at e
  | n,c::l,0,d,f,e=>by
    simp only [M.flats,Bool.and_eq_true] at f
    have e' : c = d:=by simpa using e
    rw [← e']; exact f.1
  | n,c::l,k + 1,d,f,e=>by
    simp only [M.flats,Bool.and_eq_true] at f
    exact flats_get (k:=k) f.2 (by simpa using e)
end
end
end MS
end
section
set_option linter.all false
set_option Elab.async false
set_option maxRecDepth 100000
set_option maxHeartbeats 4000000
namespace MS
open PySem PySem.Spec PyProof.Rows L2
def Its (z : Str) : It:=⟨fun i _=>i < z.cps.toList.length,fun i H x H'=>H' = H∧∃ c,z.cps.toList[i]? = some c∧x = .str ⟨#[c]⟩,fun i _=>z.cps.toList.length ≤ i⟩
theorem turn_text {P : Program} {w : World} {K : PySem.W.Frag} {tg : Expr} (z : Str) (t : Tok) (it : Addr) : Turn P w K tg (Its z) [it] it (fun i h=>h.IsStrIter it "str_ascii_iterator" z t i) where
  mem:=by simp
  obj:=fun i h st b hb=>by
    have e : b = it:=by simpa using hb
    subst e
    obtain ⟨o,e,c,d⟩:=st
    exact ⟨o,e,fun v q=>by rw [d] at q; cases q⟩
  keep:=fun i h h' st k=>by
    obtain ⟨o,e,r⟩:=st
    exact ⟨o,k it (by simp) o e,r⟩
  item:=by
    intro X hP hw hK hc i pins s σ H E I hf st hg
    subst hP hw hK
    obtain ⟨f0,f1,f2,f3,f4,f5⟩:=hf it (by simp)
    have hi : i < z.cps.toList.length:=hg
    have hx : z.cps[i]? = some (z.cps.toList[i]):=by
      rw [← Array.getElem?_toList]
      exact List.getElem?_eq_getElem hi
    refine wpAny_pyNext_ascii_item st hx fun h' st' sb=>?_
    have I1 : Inv X pins σ H { s with heap:=h',toks:=s.toks + 1 }:=I.turned (fun b o hb e=>(sb.2 b hb).trans e) f0 f1 f3 f4 f5
    obtain ⟨o,e,c,d⟩:=id st'
    exact ⟨_,rfl,go_of (s:={ s with heap:=h',toks:=s.toks + 1 }) e c d (by decide) ⟨.str ⟨#[z.cps.toList[i]]⟩,H,I1,⟨_,rfl⟩,⟨rfl,_,List.getElem?_eq_getElem hi,rfl⟩,st',fun b hb=>(hf b hb).1⟩⟩
  done:=by
    intro X hP hw hK hc i pins s σ H E I hf st hg
    subst hP hw hK
    obtain ⟨f0,f1,f2,f3,f4,f5⟩:=hf it (by simp)
    have hi : z.cps.toList.length ≤ i:=hg
    have hx : z.cps[i]? = none:=by
      rw [← Array.getElem?_toList]
      exact List.getElem?_eq_none hi
    exact wpAny_pyNext_ascii_end (I.ok.hd hc) st hx fun h' eb=>⟨rfl,I.turned (t':=s.toks) (fun b o hb e=>eb b o hb e) f0 f1 f3 f4 f5⟩
  self:=fun _ _ _ _ _ st h=>wpAny_pyIter_striter_ascii st h
section
variable {X : Cx}
theorem part_int {v : Value} {o : Option Int} (h : IsPart v o) : ∃ p : Option (Int × Tok),v = partValue p∧p.map (·.1) = o:=by
  cases h with
  | none=>exact ⟨none,rfl,rfl⟩
  | int i t=>exact ⟨some (i,t),rfl,rfl⟩
theorem idx_range (n : Nat) (lo hi : Option Int) : Builtin.Str.strSliceIndices lo hi 1 n = PySem.sliceRange ((M.cutIx n 0 lo : Nat) : Int) ((M.cutIx n n hi : Nat) : Int) 1:=by
  have cl : ∀ (o : Option Int) (d : Nat),d ≤ n→(match o with
      | none=>(d : Int)
      | some i=>max 0 (min (if i < 0 then i + (n : Int) else i) (n : Int))) = ((M.cutIx n d o : Nat) : Int):=by
    intro o d hd
    cases o with
    | none=>rfl
    | some i =>
      simp only [M.cutIx]
      split <;> omega
  rw [← cl lo 0 (Nat.zero_le _),← cl hi n (Nat.le_refl _)]
  unfold Builtin.Str.strSliceIndices
  simp only [show ((1 : Int) > 0) = True from by simp,if_true]
  congr 2
theorem cutIx_le (n d : Nat) (o : Option Int) (h : d ≤ n) : M.cutIx n d o ≤ n:=by
  cases o with
  | none=>exact h
  | some i =>
    simp only [M.cutIx]
    split <;> omega
theorem range_one (a b : Nat) : PySem.sliceRange (a : Int) (b : Int) 1 = (List.range (b - a)).map fun k=>a + k:=by
  unfold PySem.sliceRange
  simp only [show ((1 : Int) > 0) = True from by simp,if_true]
  by_cases h : (a : Int) < (b : Int)
  · rw [if_pos h]
    have e : (((b : Int) - a + 1 - 1) / 1).toNat = b - a:=by
      rw [Int.ediv_one]; omega
    rw [e]
    refine List.map_congr_left fun k _=>?_
    omega
  · rw [if_neg h]
    have e : b - a = 0:=by omega
    rw [e]
    rfl
theorem cut_text (z : Str) (lo hi : Option Int) : (Builtin.Str.strSliceIndices lo hi 1 z.length).filterMap (z.cps[·]?) = M.cut z.cps.toList lo hi:=by
  have hl : z.cps.toList.length = z.length:=by simp [Str.length]
  have h1:=cutIx_le z.length 0 lo (Nat.zero_le _)
  have h2:=cutIx_le z.length z.length hi (Nat.le_refl _)
  rw [idx_range,range_one]
  unfold M.cut
  rw [hl]
  generalize M.cutIx z.length 0 lo = a at *
  generalize M.cutIx z.length z.length hi = b at *
  have e : ∀ l : List Nat,l.filterMap (z.cps[·]?) = l.filterMap (z.cps.toList[·]?):=fun l=>by simp
  rw [e]
  by_cases hab : a ≤ b
  · exact PySem.StrLaws.picks z.cps.toList (b - a) a (by omega)
  · have e0 : b - a = 0:=by omega
    rw [e0]
    simp
theorem cut_whole (z : Str) (lo hi : Option Int) (h : (Builtin.Str.strSliceIndices lo hi 1 z.length).length = z.length) : M.cut z.cps.toList lo hi = z.cps.toList:=by
  have hl : z.cps.toList.length = z.length:=by simp [Str.length]
  have h1:=cutIx_le z.length 0 lo (Nat.zero_le _)
  have h2:=cutIx_le z.length z.length hi (Nat.le_refl _)
  rw [idx_range,range_one,List.length_map,List.length_range] at h
  unfold M.cut
  rw [hl]
  generalize M.cutIx z.length 0 lo = a at *
  generalize M.cutIx z.length z.length hi = b at *
  by_cases h0 : z.length = 0
  · have e : z.cps.toList = []:=List.length_eq_zero_iff.mp (hl.trans h0)
    rw [e]; simp
  · have ea : a = 0:=by omega
    subst ea
    rw [List.drop_zero]
    exact List.take_of_length_le (by omega)
theorem sl_text : SlR X (fun x lo hi H Q=>∃ z,x = .str z∧z.length ≤ sizeLine∧Q (.str ⟨(M.cut z.cps.toList lo hi).toArray⟩) H):=by
  intro pins s σ H x v vl vu lo hi sl Q I rx hs pl pu h
  obtain ⟨z,rfl,hz,q⟩:=h
  obtain ⟨t,rfl⟩:=rx
  obtain ⟨l,rfl,el⟩:=part_int pl
  obtain ⟨u,rfl,eu⟩:=part_int pu
  have hsl : s.heap.IsSlice sl l u none:=hs
  refine ⟨"str",_,PySem.F.slot_str_getitem.lookup,typeIs_str s z t,?_⟩
  have el : l.map (·.1) = lo:=el
  have eu : u.map (·.1) = hi:=eu
  have hpick : slicePicked z l u none = Builtin.Str.strSliceIndices lo hi 1 z.length:=by unfold slicePicked; rw [el,eu]; rfl
  have hcut:=cut_text z lo hi
  have hl : z.cps.toList.length = z.length:=by simp [Str.length]
  have clen : (M.cut z.cps.toList lo hi).length ≤ z.length:=by
    unfold M.cut
    rw [List.length_take,List.length_drop,hl]
    omega
  refine wpAny_getItem_str_slice hsl (by decide) ?_
  unfold sliceMade
  rw [hpick,hcut]
  refine post_val_or_str ⟨?_,fun t' k=>?_⟩
  · split
    · exact hz
    · show (M.cut z.cps.toList lo hi).toArray.size ≤ sizeLine
      rw [List.size_toArray]
      exact Nat.le_trans clen hz
  · refine ⟨.str ⟨(M.cut z.cps.toList lo hi).toArray⟩,H,I.tok k,⟨t',?_⟩,q⟩
    split
    · rename_i hw
      rw [Bool.and_eq_true,beq_iff_eq,beq_iff_eq] at hw
      have hw2 : (Builtin.Str.strSliceIndices lo hi 1 z.length).length = z.length:=hw.2
      have e : M.cut z.cps.toList lo hi = z.cps.toList:=cut_whole z lo hi hw2
      rw [e]
    · rfl
theorem find_one (z : Str) (c : Nat) : Txt.find z ⟨#[c]⟩ = M.findC z.cps.toList c:=by
  have at_ : ∀ i,PySem.StrLaws.At z ⟨#[c]⟩ z.length i ↔ z.cps.toList[i]? = some c:=by
    intro i
    have hl : z.cps.toList.length = z.length:=by simp [Str.length]
    have e1 : (⟨#[c]⟩ : Str).length = 1:=rfl
    unfold PySem.StrLaws.At
    rw [PySem.StrLaws.subAt_eq,e1,beq_iff_eq]
    constructor
    · rintro ⟨h1,h2⟩
      have hi : i < z.cps.toList.length:=by omega
      rw [List.drop_eq_getElem_cons hi] at h2
      have h3 : [z.cps.toList[i]] = [c]:=by simpa using h2
      rw [List.getElem?_eq_getElem hi]
      simpa using h3
    · intro h
      obtain ⟨hi,hx⟩:=List.getElem?_eq_some_iff.mp h
      refine ⟨by omega,?_⟩
      rw [List.drop_eq_getElem_cons hi,hx]
      simp
  unfold M.findC
  rcases find_whole z ⟨#[c]⟩ with ⟨e,h⟩ | ⟨i,e,h1,h2⟩
  · rw [e]
    have : z.cps.toList.findIdx? (· == c) = none:=by
      rw [List.findIdx?_eq_none_iff]
      intro x hx
      obtain ⟨i,hi⟩:=List.mem_iff_getElem?.mp hx
      by_cases hc : x = c
      · subst hc
        exact absurd ((at_ i).mpr hi) (h i)
      · simpa using hc
    rw [this]
  · rw [e]
    have h1:=(at_ i).mp h1
    have : z.cps.toList.findIdx? (· == c) = some i:=by
      rw [List.findIdx?_eq_some_iff_getElem]
      obtain ⟨hi,hx⟩:=List.getElem?_eq_some_iff.mp h1
      refine ⟨hi,by simpa using hx,fun j hj=>?_⟩
      have:=h2 j hj
      rw [at_] at this
      intro hc
      exact this (by rw [List.getElem?_eq_getElem (by omega)]; simpa using hc)
    rw [this]
theorem oneOf_eq {z : Str} {c : Nat} (h : M.oneOf z = some c) : z = ⟨#[c]⟩:=by
  obtain ⟨cs⟩:=z
  unfold M.oneOf at h
  split at h
  · rename_i d hd
    cases h
    have : cs = #[c]:=by
      apply Array.toList_inj.mp
      simpa using hd
    rw [this]
  · cases h
end
end MS
end
section
set_option linter.all false
set_option Elab.async false
set_option maxRecDepth 100000
set_option maxHeartbeats 4000000
namespace MS
open PySem PySem.Spec PyProof.Rows L2
open M (D Cell Store Sl)
section
variable {X : Cx}
section
variable {pins : List (Addr × Obj)} {σ : L2.St} {H : Hp} {s : Shared} {m : List Addr}
theorem ans_of (I : Inv X pins σ H s) (A : Around) (hu : A.units + 9 < cLine) {d0 : D} {x0 : V} {u0 : Value} (f0 : M.flat 9 d0 = true) (h0 : IsD X.K m H d0 x0) (r0 : RelV x0 u0) :
    ∃ e : Value→Bool,∀ (ds : List D) (xs : List V) (its : List Value),M.flats 9 ds = true→IsDs X.K m H ds xs→Vals xs its→(∀ w ∈ its,SeqAt.EqAt A s w u0 (e w))∧its.any e = ds.any fun y=>M.eqT y d0:=by
  classical
  refine ⟨fun w=>decide (∃ d x,M.flat 9 d = true∧IsD X.K m H d x∧RelV x w∧M.eqT d d0 = true),fun ds=>?_⟩
  have key : ∀ d x w,M.flat 9 d = true→IsD X.K m H d x→RelV x w→decide (∃ d x,M.flat 9 d = true∧IsD X.K m H d x∧RelV x w∧M.eqT d d0 = true) = M.eqT d d0:=by
    intro d x w f i r
    cases q : M.eqT d d0 with
    | true=>exact decide_eq_true ⟨d,x,f,i,r,q⟩
    | false =>
      refine decide_eq_false ?_
      rintro ⟨d',x',f',i',r',q'⟩
      have e1:=r.inj r'
      subst e1
      have e2:=isD_inj I 9 d d' x f f' i i'
      subst e2
      rw [q] at q'
      cases q'
  induction ds with
  | nil =>
    intro xs its _ ix r
    rw [ix.nil] at r
    cases r
    exact ⟨fun w hw=>(by cases hw),rfl⟩
  | cons d ds ih =>
    intro xs its f ix r
    obtain ⟨x,xr,rfl,q,t⟩:=ix.cons
    simp only [M.flats,Bool.and_eq_true] at f
    cases r with
    | @cons _ u _ us r1 r2 =>
      obtain ⟨a1,a2⟩:=ih xr us f.2 t r2
      refine ⟨fun w hw=>?_,?_⟩
      · rcases List.mem_cons.mp hw with z | z
        · subst z
          show SeqAt.EqAt A s w u0 (decide _)
          rw [key d x w f.1 q r1]
          exact (eqAt_D I 9 A d d0 x x0 w u0 hu f.1 f0 q h0 r1 r0).1
        · exact a1 w z
      · rw [List.any_cons,List.any_cons,a2]
        congr 1
        exact key d x u f.1 q r1
end
theorem items_eq {pins : List (Addr × Obj)} {σ : L2.St} {H : Hp} {s : Shared} {m : List Addr} (I : Inv X pins σ H s) (A : Around) (n : Nat) (hu : A.units + n < cLine) {ds es : List D} {xs ys : List V} {its its2 : List Value} (f : M.flats n ds = true) (fe : M.flats n es = true) (ix : IsDs X.K m H ds xs) (iy : IsDs X.K m H es ys) (r1 : Vals xs its) (r2 : Vals ys its2)
    (j : Nat) (h1 : j < its.toArray.size) (h2 : j < its2.toArray.size) : SeqAt.EqAt A s its.toArray[j] its2.toArray[j] (pairE ds es j):=by
  have l1:=ix.length
  have l2:=iy.length
  have l3:=r1.length
  have l4:=r2.length
  rw [List.size_toArray] at h1 h2
  have j1 : j < ds.length:=by omega
  have j2 : j < es.length:=by omega
  have g1 : ds[j]? = some ds[j]:=by simp
  have g2 : es[j]? = some es[j]:=by simp
  obtain ⟨x1,k1,q1⟩:=ix.get g1
  obtain ⟨x2,k2,q2⟩:=iy.get g2
  obtain ⟨u1,w1,z1⟩:=r1.get k1
  obtain ⟨u2,w2,z2⟩:=r2.get k2
  have this:=(eqAt_D I n A ds[j] es[j] x1 x2 u1 u2 hu (flats_get f g1) (flats_get fe g2) q1 q2 z1 z2).1
  have e1 : its.toArray[j] = u1:=by
    have : its[j]? = some its[j]:=by simp
    rw [w1] at this
    simpa using (Option.some.inj this).symm
  have e2 : its2.toArray[j] = u2:=by
    have : its2[j]? = some its2[j]:=by simp
    rw [w2] at this
    simpa using (Option.some.inj this).symm
  rw [e1,e2]
  have e3 : pairE ds es j = M.eqT ds[j] es[j]:=by
    unfold pairE
    rw [g1,g2]
  rw [e3]
  exact this
theorem op_inD (hu : X.A.units + 64 < cLine) : OpR X (compareOp .In) (rD X.K fun st a b=>(M.inD st a b).map fun k=>(.bl k,st)):=by
  intro pins s σ H x y v u Q I rx ry h
  obtain ⟨m,st,a,b,d,st',R0,i1,i2,e,q⟩:=h
  obtain ⟨k,e1,e2⟩:=mapD e
  cases e2
  have hu1 : X.A.in1.units + 9 < cLine:=by have hz : X.A.in1.units = X.A.units + 1:=rfl; omega
  cases b with
  | tup ds =>
    simp only [M.inD] at e1
    split at e1
    · rename_i hf
      cases e1
      rw [Bool.and_eq_true] at hf
      obtain ⟨p,xs,its,rfl,hq,ix,r,pl⟩:=isD_tuple I i2
      cases ry
      obtain ⟨ef,ha⟩:=ans_of I X.A.in1 hu1 hf.1 i1 rx
      obtain ⟨h1,h2⟩:=ha ds xs its hf.2 ix r
      refine SeqAt.in_tupleAt ef pl (fun w hw=>h1 w (by simpa using hw)) ⟨.bl _,H,I,rfl,?_⟩
      rw [show its.toArray.any ef = its.any ef by simp,h2]
      exact q.here R0 (mkBl _)
    · cases e1
  | loc l =>
    simp only [M.inD] at e1
    obtain ⟨ds,e2,e1⟩:=bindO e1
    split at e1
    · rename_i hf
      cases e1
      rw [Bool.and_eq_true] at hf
      obtain ⟨p,xs,_,rfl,hq,ix⟩:=R0.seq e2 i2
      cases ry
      obtain ⟨its,r,pl,_⟩:=I.list hq
      obtain ⟨ef,ha⟩:=ans_of I X.A.in1 hu1 hf.1 i1 rx
      obtain ⟨h1,h2⟩:=ha ds xs its hf.2 ix r
      refine SeqAt.in_listAt ef pl.isList (fun w hw=>h1 w (by simpa using hw)) ⟨.bl _,H,I,rfl,?_⟩
      rw [show its.toArray.any ef = its.any ef by simp,h2]
      exact q.here R0 (mkBl _)
    · cases e1
  | lst l =>
    simp only [M.inD] at e1
    obtain ⟨ds,e2,e1⟩:=bindO e1
    split at e1
    · rename_i hf
      cases e1
      rw [Bool.and_eq_true] at hf
      obtain ⟨p,xs,_,rfl,hq,ix⟩:=R0.seq e2 i2
      cases ry
      obtain ⟨its,r,pl,_⟩:=I.list hq
      obtain ⟨ef,ha⟩:=ans_of I X.A.in1 hu1 hf.1 i1 rx
      obtain ⟨h1,h2⟩:=ha ds xs its hf.2 ix r
      refine SeqAt.in_listAt ef pl.isList (fun w hw=>h1 w (by simpa using hw)) ⟨.bl _,H,I,rfl,?_⟩
      rw [show its.toArray.any ef = its.any ef by simp,h2]
      exact q.here R0 (mkBl _)
    · cases e1
  | str z =>
    simp only [M.inD] at e1
    cases a with
    | str y0 =>
      obtain ⟨c,e3,e4⟩:=mapD e1
      have hy:=oneOf_eq e3
      subst hy
      subst e4
      refine op_in_str pins s σ H x y v u Q I rx ry ⟨_,_,i1.str,i2.str,?_⟩
      rw [PySem.StrLaws.found_one]
      exact q.here R0 (mkBl _)
    | _=>cases e1
  | _=>simp [M.inD,M.seqAt] at e1
theorem op_notInD (hu : X.A.units + 64 < cLine) : OpR X (compareOp .NotIn) (rD X.K fun st a b=>((M.inD st a b).map (!·)).map fun k=>(.bl k,st)):=by
  intro pins s σ H x y v u Q I rx ry h
  obtain ⟨m,st,a,b,d,st',R0,i1,i2,e,q⟩:=h
  obtain ⟨k0,e0,e2⟩:=mapD e
  cases e2
  obtain ⟨k,e1,e3⟩:=mapD e0
  subst e3
  have hu1 : X.A.in1.units + 9 < cLine:=by have hz : X.A.in1.units = X.A.units + 1:=rfl; omega
  cases b with
  | tup ds =>
    simp only [M.inD] at e1
    split at e1
    · rename_i hf
      cases e1
      rw [Bool.and_eq_true] at hf
      obtain ⟨p,xs,its,rfl,hq,ix,r,pl⟩:=isD_tuple I i2
      cases ry
      obtain ⟨ef,ha⟩:=ans_of I X.A.in1 hu1 hf.1 i1 rx
      obtain ⟨h1,h2⟩:=ha ds xs its hf.2 ix r
      refine SeqAt.notIn_tupleAt ef pl (fun w hw=>h1 w (by simpa using hw)) ⟨.bl _,H,I,rfl,?_⟩
      rw [show its.toArray.any ef = its.any ef by simp,h2]
      exact q.here R0 (mkBl _)
    · cases e1
  | loc l =>
    simp only [M.inD] at e1
    obtain ⟨ds,e2,e1⟩:=bindO e1
    split at e1
    · rename_i hf
      cases e1
      rw [Bool.and_eq_true] at hf
      obtain ⟨p,xs,_,rfl,hq,ix⟩:=R0.seq e2 i2
      cases ry
      obtain ⟨its,r,pl,_⟩:=I.list hq
      obtain ⟨ef,ha⟩:=ans_of I X.A.in1 hu1 hf.1 i1 rx
      obtain ⟨h1,h2⟩:=ha ds xs its hf.2 ix r
      refine SeqAt.notIn_listAt ef pl.isList (fun w hw=>h1 w (by simpa using hw)) ⟨.bl _,H,I,rfl,?_⟩
      rw [show its.toArray.any ef = its.any ef by simp,h2]
      exact q.here R0 (mkBl _)
    · cases e1
  | lst l =>
    simp only [M.inD] at e1
    obtain ⟨ds,e2,e1⟩:=bindO e1
    split at e1
    · rename_i hf
      cases e1
      rw [Bool.and_eq_true] at hf
      obtain ⟨p,xs,_,rfl,hq,ix⟩:=R0.seq e2 i2
      cases ry
      obtain ⟨its,r,pl,_⟩:=I.list hq
      obtain ⟨ef,ha⟩:=ans_of I X.A.in1 hu1 hf.1 i1 rx
      obtain ⟨h1,h2⟩:=ha ds xs its hf.2 ix r
      refine SeqAt.notIn_listAt ef pl.isList (fun w hw=>h1 w (by simpa using hw)) ⟨.bl _,H,I,rfl,?_⟩
      rw [show its.toArray.any ef = its.any ef by simp,h2]
      exact q.here R0 (mkBl _)
    · cases e1
  | str z =>
    simp only [M.inD] at e1
    cases a with
    | str y0 =>
      obtain ⟨c,e3,e4⟩:=mapD e1
      have hy:=oneOf_eq e3
      subst hy
      subst e4
      refine op_notin_str pins s σ H x y v u Q I rx ry ⟨_,_,i1.str,i2.str,?_⟩
      rw [PySem.StrLaws.found_one]
      exact q.here R0 (mkBl _)
    | _=>cases e1
  | _=>simp [M.inD,M.seqAt] at e1
theorem op_eqD (hu : X.A.units + 64 < cLine) : OpR X (compareOp .Eq) (rD X.K fun st a b=>(M.eqD st a b).map fun k=>(.bl k,st)):=by
  intro pins s σ H x y v u Q I rx ry h
  obtain ⟨m,st,a,b,d,st',R0,i1,i2,e,q⟩:=h
  obtain ⟨k,e1,e2⟩:=mapD e
  cases e2
  have e1 : M.eqD st a b = some k:=e1
  unfold M.eqD at e1
  split at e1
  · rename_i ds es g1 g2
    split at e1
    · rename_i hf
      cases e1
      rw [Bool.and_eq_true] at hf
      obtain ⟨p,xs,_,rfl,hq,ix⟩:=R0.seq g1 i1
      obtain ⟨p',ys,_,rfl,hq',iy⟩:=R0.seq g2 i2
      cases rx
      cases ry
      obtain ⟨its,r1,pl,_⟩:=I.list hq
      obtain ⟨its2,r2,pl2,_⟩:=I.list hq'
      have l1:=ix.length
      have l2:=iy.length
      have l3:=r1.length
      have l4:=r2.length
      by_cases hsz : its.toArray.size = its2.toArray.size
      · refine SeqAt.RcAt.lists (e:=pairE ds es) pl.isList pl2.isList hsz (by omega) (fun j h1 h2=>?_) _ _ _ _ ⟨.bl _,H,I,rfl,?_⟩
        · rw [List.size_toArray] at h1 h2
          have j1 : j < ds.length:=by omega
          have j2 : j < es.length:=by omega
          have g1 : ds[j]? = some ds[j]:=by simp
          have g2 : es[j]? = some es[j]:=by simp
          obtain ⟨x1,k1,q1⟩:=ix.get g1
          obtain ⟨x2,k2,q2⟩:=iy.get g2
          obtain ⟨u1,w1,z1⟩:=r1.get k1
          obtain ⟨u2,w2,z2⟩:=r2.get k2
          have this:=(eqAt_D I 9 X.A.in1 ds[j] es[j] x1 x2 u1 u2 (by have hz : X.A.in1.units = X.A.units + 1:=rfl; omega) (flats_get hf.1 g1) (flats_get hf.2 g2) q1 q2 z1 z2).1
          have e1 : its.toArray[j] = u1:=by
            have : its[j]? = some its[j]:=by simp
            rw [w1] at this
            simpa using (Option.some.inj this).symm
          have e2 : its2.toArray[j] = u2:=by
            have : its2[j]? = some its2[j]:=by simp
            rw [w2] at this
            simpa using (Option.some.inj this).symm
          rw [e1,e2]
          have e3 : pairE ds es j = M.eqT ds[j] es[j]:=by
            unfold pairE
            rw [g1,g2]
          rw [e3]
          exact this
        · rw [List.size_toArray,List.size_toArray] at hsz
          have e5 : (List.range its.toArray.size).all (pairE ds es) = M.eqTs ds es:=by
            rw [eqTs_same (by omega),List.size_toArray,← l3,← l1]
          rw [e5]
          exact q.here R0 (mkBl _)
      · rw [List.size_toArray,List.size_toArray] at hsz
        have e5 : M.eqTs ds es = false:=by
          rw [eqTs_pair]
          have : (ds.length == es.length) = false:=by simp; omega
          rw [this,Bool.and_false]
        rw [e5] at q
        refine SeqAt.RcAt.lists_lengths pl.isList pl2.isList (by simpa using hsz) (by omega) _ _ _ _ ⟨.bl _,H,I,rfl,q.here R0 (mkBl _)⟩
    · cases e1
  · split at e1
    · rename_i hf
      cases e1
      rw [Bool.and_eq_true] at hf
      exact (eqAt_D I 9 X.A a b x y v u (by omega) hf.1 hf.2 i1 i2 rx ry).2 _ _ _ _ ⟨.bl _,H,I,rfl,q.here R0 (mkBl _)⟩
    · cases e1
theorem neAt_D {pins : List (Addr × Obj)} {σ : L2.St} {H : Hp} {s : Shared} {m : List Addr} (I : Inv X pins σ H s) (A : Around) (d e : D) (x y : V) (u v : Value) (hu : A.units + 10 < cLine) (f : M.flat 9 d = true) (fe : M.flat 9 e = true) (hx : IsD X.K m H d x) (hy : IsD X.K m H e y) (rx : RelV x u) (ry : RelV y v) :
    SeqAt.RcNeAt A s u v (!M.eqT d e):=by
  have hu0 : A.units < cLine:=by omega
  cases d with
  | loc _=>simp [M.flat] at f
  | lst _=>simp [M.flat] at f
  | non =>
    cases hx.non; cases rx
    cases e with
    | loc _=>simp [M.flat] at fe
    | lst _=>simp [M.flat] at fe
    | tup es=>obtain ⟨b,ys,its2,rfl,hq2,iy,r2,p2⟩:=isD_tuple I hy; cases ry; exact SeqAt.RcNeAt.none_tuple p2 hu0
    | non=>cases hy.non; cases ry; exact SeqAt.RcNeAt.none_none
    | bl b=>cases hy.bl; cases ry; exact SeqAt.RcNeAt.none_bool b
    | int b=>cases hy.int; obtain ⟨t,rfl⟩:=ry; exact SeqAt.RcNeAt.none_int b t
    | str b=>cases hy.str; obtain ⟨t,rfl⟩:=ry; exact SeqAt.RcNeAt.none_str b t
  | bl a =>
    cases hx.bl; cases rx
    cases e with
    | loc _=>simp [M.flat] at fe
    | lst _=>simp [M.flat] at fe
    | tup es=>obtain ⟨b,ys,its2,rfl,hq2,iy,r2,p2⟩:=isD_tuple I hy; cases ry; exact SeqAt.RcNeAt.bool_tuple a p2 hu0
    | non=>cases hy.non; cases ry; exact SeqAt.RcNeAt.bool_none a
    | bl b=>cases hy.bl; cases ry; exact SeqAt.RcNeAt.bool_bool a b
    | int b=>cases hy.int; obtain ⟨t,rfl⟩:=ry; exact SeqAt.RcNeAt.bool_int a b t
    | str b=>cases hy.str; obtain ⟨t,rfl⟩:=ry; exact SeqAt.RcNeAt.bool_str a b t
  | int a =>
    cases hx.int; obtain ⟨t',rfl⟩:=rx
    cases e with
    | loc _=>simp [M.flat] at fe
    | lst _=>simp [M.flat] at fe
    | tup es=>obtain ⟨b,ys,its2,rfl,hq2,iy,r2,p2⟩:=isD_tuple I hy; cases ry; exact SeqAt.RcNeAt.int_tuple a t' p2 hu0
    | non=>cases hy.non; cases ry; exact SeqAt.RcNeAt.int_none a t'
    | bl b=>cases hy.bl; cases ry; exact SeqAt.RcNeAt.int_bool a t' b
    | int b=>cases hy.int; obtain ⟨t,rfl⟩:=ry; exact SeqAt.RcNeAt.int_int a t' b t
    | str b=>cases hy.str; obtain ⟨t,rfl⟩:=ry; exact SeqAt.RcNeAt.int_str a t' b t
  | str a =>
    cases hx.str; obtain ⟨t',rfl⟩:=rx
    cases e with
    | loc _=>simp [M.flat] at fe
    | lst _=>simp [M.flat] at fe
    | tup es=>obtain ⟨b,ys,its2,rfl,hq2,iy,r2,p2⟩:=isD_tuple I hy; cases ry; exact SeqAt.RcNeAt.str_tuple a t' p2 hu0
    | non=>cases hy.non; cases ry; exact SeqAt.RcNeAt.str_none a t'
    | bl b=>cases hy.bl; cases ry; exact SeqAt.RcNeAt.str_bool a t' b
    | int b=>cases hy.int; obtain ⟨t,rfl⟩:=ry; exact SeqAt.RcNeAt.str_int a t' b t
    | str b=>cases hy.str; obtain ⟨t,rfl⟩:=ry; exact SeqAt.RcNeAt.str_str a t' b t
  | tup ds =>
    obtain ⟨a,xs,its,rfl,hq,ix,r1,p1⟩:=isD_tuple I hx
    cases rx
    cases e with
    | loc _=>simp [M.flat] at fe
    | lst _=>simp [M.flat] at fe
    | non=>cases hy.non; cases ry; exact SeqAt.RcNeAt.tuple_none p1 hu0
    | bl b=>cases hy.bl; cases ry; exact SeqAt.RcNeAt.tuple_bool b p1 hu0
    | int b=>cases hy.int; obtain ⟨t,rfl⟩:=ry; exact SeqAt.RcNeAt.tuple_int b t p1 hu0
    | str b=>cases hy.str; obtain ⟨t,rfl⟩:=ry; exact SeqAt.RcNeAt.tuple_str b t p1 hu0
    | tup es =>
      obtain ⟨b,ys,its2,rfl,hq2,iy,r2,p2⟩:=isD_tuple I hy
      cases ry
      have l1:=ix.length
      have l2:=iy.length
      have l3:=r1.length
      have l4:=r2.length
      simp only [M.flat] at f fe
      have he : ∀ j (h1 : j < its.toArray.size) (h2 : j < its2.toArray.size),SeqAt.EqAt A.in1 s its.toArray[j] its2.toArray[j] (pairE ds es j):=fun j h1 h2=>items_eq I A.in1 8 (by have hz : A.in1.units = A.units + 1:=rfl; omega) f fe ix iy r1 r2 j h1 h2
      have:=SeqAt.RcNeAt.tuples p1 p2 hu0 he
      simp only [M.eqT]
      rw [eqTs_pair,l1,l2,l3,l4]
      simpa using this
theorem op_neD (hu : X.A.units + 64 < cLine) : OpR X (compareOp .NotEq) (rD X.K fun st a b=>(M.neD st a b).map fun k=>(.bl k,st)):=by
  intro pins s σ H x y v u Q I rx ry h
  obtain ⟨m,st,a,b,d,st',R0,i1,i2,e,q⟩:=h
  obtain ⟨k0,e0,e2⟩:=mapD e
  cases e2
  obtain ⟨k,e1,e3⟩:=mapD e0
  subst e3
  have e1 : M.eqD st a b = some k:=e1
  unfold M.eqD at e1
  split at e1
  · rename_i ds es g1 g2
    split at e1
    · rename_i hf
      cases e1
      rw [Bool.and_eq_true] at hf
      obtain ⟨p,xs,_,rfl,hq,ix⟩:=R0.seq g1 i1
      obtain ⟨p',ys,_,rfl,hq',iy⟩:=R0.seq g2 i2
      cases rx
      cases ry
      obtain ⟨its,r1,pl,_⟩:=I.list hq
      obtain ⟨its2,r2,pl2,_⟩:=I.list hq'
      have l1:=ix.length
      have l2:=iy.length
      have l3:=r1.length
      have l4:=r2.length
      by_cases hsz : its.toArray.size = its2.toArray.size
      · refine SeqAt.RcNeAt.lists (e:=pairE ds es) pl.isList pl2.isList hsz (by omega) (fun j h1 h2=>items_eq I X.A.in1 9 (by have hz : X.A.in1.units = X.A.units + 1:=rfl; omega) hf.1 hf.2 ix iy r1 r2 j h1 h2) _ _ _ _ ⟨.bl _,H,I,rfl,?_⟩
        rw [List.size_toArray,List.size_toArray] at hsz
        have e5 : (List.range its.toArray.size).all (pairE ds es) = M.eqTs ds es:=by
          rw [eqTs_same (by omega),List.size_toArray,← l3,← l1]
        rw [e5]
        exact q.here R0 (mkBl _)
      · rw [List.size_toArray,List.size_toArray] at hsz
        have e5 : M.eqTs ds es = false:=by
          rw [eqTs_pair]
          have : (ds.length == es.length) = false:=by simp; omega
          rw [this,Bool.and_false]
        rw [e5] at q
        refine SeqAt.RcNeAt.lists_lengths pl.isList pl2.isList (by simpa using hsz) (by omega) _ _ _ _ ⟨.bl _,H,I,rfl,q.here R0 (mkBl _)⟩
    · cases e1
  · split at e1
    · rename_i hf
      cases e1
      rw [Bool.and_eq_true] at hf
      exact neAt_D I X.A a b x y v u (by omega) hf.1 hf.2 i1 i2 rx ry _ _ _ _ ⟨.bl _,H,I,rfl,q.here R0 (mkBl _)⟩
    · cases e1
theorem isNon_of {K : PySem.W.Frag} {m : List Addr} {H : Hp} {d : D} {x : V} (h : IsD K m H d x) : decide (x = .non) = M.isNon d:=by
  cases d with
  | non=>rw [h.non]; rfl
  | bl b=>rw [h.bl]; rfl
  | int b=>rw [h.int]; rfl
  | str b=>rw [h.str]; rfl
  | tup ds=>obtain ⟨a,xs,rfl,_⟩:=h.tup; rfl
  | loc l=>obtain ⟨a,_,rfl⟩:=h.loc; rfl
  | lst l=>obtain ⟨a,xs,rfl,_⟩:=h.lst; rfl
theorem op_cmpD (hu : X.A.units + 64 < cLine) (op : CmpOp) : OpR X (compareOp op) (rD X.K fun st a b=>(M.cmpD st op a b).map fun k=>(.bl k,st)):=by
  intro pins s σ H x y v u Q I rx ry h
  obtain ⟨m,st,a,b,d,st',R0,i1,i2,e,q⟩:=h
  obtain ⟨k,e1,e2⟩:=mapD e
  cases e2
  have e1 : M.cmpD st op a b = some k:=e1
  unfold M.cmpD at e1
  split at e1
  · cases e1
    exact op_lt pins s σ H x y v u Q I rx ry ⟨_,_,i1.int,i2.int,q.here R0 (mkBl _)⟩
  · cases e1
    exact op_le pins s σ H x y v u Q I rx ry ⟨_,_,i1.int,i2.int,q.here R0 (mkBl _)⟩
  · cases e1
    exact op_gt pins s σ H x y v u Q I rx ry ⟨_,_,i1.int,i2.int,q.here R0 (mkBl _)⟩
  · cases e1
    exact op_ge pins s σ H x y v u Q I rx ry ⟨_,_,i1.int,i2.int,q.here R0 (mkBl _)⟩
  · exact op_eqD hu pins s σ H x y v u Q I rx ry ⟨m,st,a,b,_,_,R0,i1,i2,by dsimp only; rw [e1]; rfl,q⟩
  · exact op_neD hu pins s σ H x y v u Q I rx ry ⟨m,st,a,b,_,_,R0,i1,i2,by dsimp only; rw [e1]; rfl,q⟩
  · cases e1
    refine op_isN pins s σ H x y v u Q I rx ry ⟨i2.non,?_⟩
    rw [isNon_of i1]
    exact q.here R0 (mkBl _)
  · cases e1
    refine op_notN pins s σ H x y v u Q I rx ry ⟨i2.non,?_⟩
    rw [isNon_of i1]
    exact q.here R0 (mkBl _)
  · exact op_inD hu pins s σ H x y v u Q I rx ry ⟨m,st,a,b,_,_,R0,i1,i2,by dsimp only; rw [e1]; rfl,q⟩
  · exact op_notInD hu pins s σ H x y v u Q I rx ry ⟨m,st,a,b,_,_,R0,i1,i2,by dsimp only; rw [e1]; rfl,q⟩
  · cases e1
theorem truV_of {K : PySem.W.Frag} {m : List Addr} {st : Store} {H : Hp} {d : D} {x : V} {k : Bool} (R0 : Rel K m st H) (h : IsD K m H d x) (e : M.truth st d = some k) : TruV K x H k:=by
  cases d with
  | non=>rw [h.non]; simp only [M.truth] at e; exact (Option.some.inj e).symm
  | bl b=>rw [h.bl]; simp only [M.truth] at e; exact (Option.some.inj e).symm
  | int b=>rw [h.int]; simp only [M.truth] at e; exact (Option.some.inj e).symm
  | str b =>
    rw [h.str]
    simp only [M.truth] at e
    split at e
    · cases e
    · have l3:=lim_eq
      exact ⟨by omega,(Option.some.inj e).symm⟩
  | tup ds =>
    obtain ⟨a,xs,rfl,hq,ix⟩:=h.tup
    simp only [M.truth] at e
    refine .inr (.inl ⟨xs,hq,?_⟩)
    have:=ix.length
    cases e
    cases ds <;> cases xs <;> simp_all
  | loc l =>
    simp only [M.truth] at e
    obtain ⟨ds,e1,e2⟩:=mapD e
    obtain ⟨a,xs,_,rfl,hq,ix⟩:=R0.seq e1 h
    refine .inl ⟨xs,hq,?_⟩
    have:=ix.length
    subst e2
    cases ds <;> cases xs <;> simp_all
  | lst l =>
    simp only [M.truth] at e
    obtain ⟨ds,e1,e2⟩:=mapD e
    obtain ⟨a,xs,_,rfl,hq,ix⟩:=R0.seq e1 h
    refine .inl ⟨xs,hq,?_⟩
    have:=ix.length
    subst e2
    cases ds <;> cases xs <;> simp_all
theorem atI_of {K : PySem.W.Frag} {m : List Addr} {H : Hp} {ds : List D} {xs : List V} {i : Int} {d : D} (ix : IsDs K m H ds xs) (e : M.atI ds i = some d) : ∃ x,L2.atI xs i = some x∧IsD K m H d x:=by
  unfold M.atI at e
  obtain ⟨j,e1,e2⟩:=bindO e
  obtain ⟨x,e3,q⟩:=ix.get e2
  refine ⟨x,?_,q⟩
  unfold L2.atI
  have e4 : L2.ixN xs.length i = some j:=by rw [← ix.length]; exact e1
  rw [e4]
  exact e3
theorem ix_D : IxR X (rD X.K fun st a b=>(M.idxD st a b).map fun d=>(d,st)):=by
  intro value slice pins s σ H x y v u Q I rx ry h hs
  obtain ⟨m,st,a,b,d,st',R0,i1,i2,e,q⟩:=h
  obtain ⟨k,e1,e2⟩:=mapD e
  cases e2
  have e1 : M.idxD st a b = some d:=e1
  unfold M.idxD at e1
  split at e1
  · obtain ⟨p,xs,rfl,hq,ix⟩:=i1.tup
    obtain ⟨w,e3,iw⟩:=atI_of ix e1
    exact ix_tup value slice pins s σ H _ _ v u Q I rx ry ⟨p,xs,_,w,rfl,i2.int,hq,e3,q.here R0 iw⟩ hs
  · split at e1
    · cases e1
    · obtain ⟨c,e3,e4⟩:=mapD e1
      subst e4
      have l3:=lim_eq
      exact ix_str value slice pins s σ H _ _ v u Q I rx ry ⟨_,_,c,i1.str,i2.int,by omega,e3,q.here R0 (mkStr _)⟩ hs
  · obtain ⟨ds,e2,e1⟩:=bindO e1
    obtain ⟨p,xs,_,rfl,hq,ix⟩:=R0.seq e2 i1
    obtain ⟨w,e3,iw⟩:=atI_of ix e1
    exact ix_list value slice pins s σ H _ _ v u Q I rx ry ⟨p,xs,_,w,rfl,i2.int,hq,e3,q.here R0 iw⟩ hs
  · cases e1
def rSetD (K : PySem.W.Frag) : V→V→V→Hp→(Hp→Prop)→Prop:=fun o i v H Q=>∃ m st a b c st',Rel K m st H∧IsD K m H a o∧IsD K m H b i∧IsD K m H c v∧M.setIxD st a b c = some st' ∧
  ∀ m' H',Sub m m'→Tr H H'→Rel K m' st' H'→Q H'
theorem set_D : PSet X (rSetD X.K):=by
  intro pins s σ H o i v ov iv u Q I ro ri rv h
  obtain ⟨m,st,a,b,c,st',R0,i1,i2,i3,e,q⟩:=h
  unfold M.setIxD at e
  split at e
  · obtain ⟨ds,e1,e⟩:=bindO e
    obtain ⟨j,e2,e3⟩:=mapD e
    subst e3
    obtain ⟨p,xs,hm,rfl,hp,ix,hs⟩:=R0.wlist e1 i1
    refine set_list pins s σ H _ _ _ ov iv u Q I ro ri rv ⟨p,xs,_,j,rfl,i2.int,hp,by rw [← ix.length]; exact e2,?_⟩
    exact q m _ (Sub.refl m) (Tr.put hp) (R0.put hs hm hp (ix.set j i3))
  · cases e
theorem mt_appendD : MtM X "list.append" (fun x xs H Q=>∃ m st a ds d st',Rel X.K m st H∧IsD X.K m H a x∧IsDs X.K m H ds xs∧M.mAppend st a ds = some (d,st')∧Post X.K m H d st' Q):=by
  intro pins s σ H x xs v us Q I rx rs h
  obtain ⟨m,st,a,ds,d,st',R0,i1,i2,e,q⟩:=h
  unfold M.mAppend at e
  split at e
  · obtain ⟨ds0,e1,e⟩:=bindO e
    split at e
    · rename_i hl
      cases e
      obtain ⟨p,ys,hm,rfl,hp,ix,hs⟩:=R0.wlist e1 i1
      obtain ⟨y,rfl,iy⟩:=i2.one
      have l1:=ix.length
      have l2:=lim_eq
      refine mt_append pins s σ H _ _ v us Q I rx rs ⟨p,ys,y,rfl,rfl,hp,by omega,?_⟩
      exact q _ m _ (Sub.refl m) (Tr.put hp) (R0.put hs hm hp (ix.append (mkCons iy mkNil))) mkNon
    · cases e
  · cases e
def rSlD (K : PySem.W.Frag) : V→Option Int→Option Int→Hp→VK→Prop:=fun x lo hi H Q=>∃ m st a d st',Rel K m st H∧IsD K m H a x∧M.sliD st a lo hi = some (d,st')∧Post K m H d st' Q
theorem _root_.MS.IsDs.take {K : PySem.W.Frag} {m : List Addr} {H : Hp} : ∀ {ds : List D} {xs : List V} (n : Nat),IsDs K m H ds xs→IsDs K m H (ds.take n) (xs.take n)
  | _,_,0,_=>by simp only [List.take_zero]; exact mkNil
  | [],_,n + 1,h=>by rw [h.nil]; simp only [List.take_nil]; exact mkNil
  | d::ds,_,n + 1,h=>by
    obtain ⟨x,r,rfl,q,t⟩:=h.cons
    simp only [List.take_succ_cons]
    exact mkCons q (IsDs.take n t)
theorem _root_.MS.IsDs.drop {K : PySem.W.Frag} {m : List Addr} {H : Hp} : ∀ {ds : List D} {xs : List V} (n : Nat),IsDs K m H ds xs→IsDs K m H (ds.drop n) (xs.drop n)
  | _,_,0,h=>by simp only [List.drop_zero]; exact h
  | [],_,n + 1,h=>by rw [h.nil]; simp only [List.drop_nil]; exact mkNil
  | d::ds,_,n + 1,h=>by
    obtain ⟨x,r,rfl,q,t⟩:=h.cons
    simp only [List.drop_succ_cons]
    exact IsDs.drop n t
theorem cutIx_eq (n d : Nat) (o : Option Int) : M.cutIx n d o = HT.sIx n d o:=by
  cases o <;> rfl
theorem cut_of {K : PySem.W.Frag} {m : List Addr} {H : Hp} {ds : List D} {xs : List V} (h : IsDs K m H ds xs) (lo hi : Option Int) : IsDs K m H (M.cut ds lo hi) (cutV xs lo hi):=by
  unfold M.cut cutV
  rw [cutIx_eq,cutIx_eq,h.length]
  exact (h.drop _).take _
theorem sl_D : SlR X (rSlD X.K):=by
  intro pins s σ H x v vl vu lo hi sl Q I rx hs pl pu h
  obtain ⟨m,st,a,d,st',R0,i1,e,q⟩:=h
  unfold M.sliD at e
  split at e
  · cases e
    obtain ⟨p,xs,rfl,hx,ix⟩:=i1.tup
    have ic:=cut_of ix lo hi
    by_cases hw : HT.sIx xs.length 0 lo = 0∧HT.sIx xs.length xs.length hi = xs.length
    · cases rx
      obtain ⟨its,r,ht,hz⟩:=I.tuple hx
      refine ⟨"tuple",_,PyProof.Rows.slot_tuple_getitem.lookup,ht.typeIs,?_⟩
      have hlen : its.toArray.size = xs.length:=by rw [List.size_toArray]; exact r.length.symm
      refine getItem_tuple_whole ht hs pl pu (by rw [hlen]; exact hw) ?_
      refine ⟨.ref p,H,I,rfl,q.here R0 (mkTup hx ?_)⟩
      have e1 : cutV xs lo hi = xs:=by
        unfold cutV
        rw [hw.1,hw.2]
        simp
      rw [e1] at ic
      exact ic
    · refine sl_tup pins s σ H _ v vl vu lo hi sl Q I rx hs pl pu ⟨p,xs,rfl,hx,hw,fun p' hp=>?_⟩
      have sm:=same_new (o:=.tup (cutV xs lo hi)) hp
      exact q _ m _ (Sub.refl m) (Tr.of_same sm) (R0.same sm) (mkTup (SqT.of upd_same) (isDs_mono (Sub.refl m) (Tr.of_same sm) _ _ ic))
  · split at e
    · cases e
    · rename_i hz
      cases e
      have l2:=lim_eq
      exact sl_text pins s σ H _ v vl vu lo hi sl Q I rx hs pl pu ⟨_,i1.str,by omega,q.here R0 (mkStr _)⟩
  · obtain ⟨ds,e1,e2⟩:=mapD e
    cases e2
    obtain ⟨p,xs,_,rfl,hq,ix⟩:=R0.seq e1 i1
    refine sl_list pins s σ H _ v vl vu lo hi sl Q I rx hs pl pu ⟨p,xs,rfl,hq,fun l hl=>?_⟩
    exact q _ (m++[l]) _ (Sub.app m [l]) (Tr.of_same (same_new hl)) (R0.new hl (cut_of ix lo hi)) R0.newLoc
def rAug (K : PySem.W.Frag) (op : Operator) : R2:=fun x y H Q=>∃ m st a b d,Rel K m st H∧IsD K m H a x∧IsD K m H b y∧M.augD st op a b = some d∧∀ v,IsD K m H d v→Q v H
theorem ip_D (op : Operator) : PIp X op (rAug X.K op):=by
  intro pins s σ H x y v u Q I rx ry h
  obtain ⟨m,st,a,b,d,R0,i1,i2,e,q⟩:=h
  unfold M.augD at e
  split at e
  · cases e
    exact iop_add pins s σ H x y v u Q I rx ry ⟨_,_,i1.int,i2.int,q _ (mkInt _)⟩
  · cases e
    exact iop_sub pins s σ H x y v u Q I rx ry ⟨_,_,i1.int,i2.int,q _ (mkInt _)⟩
  · split at e
    · rename_i hc
      cases e
      refine iop_mul pins s σ H x y v u Q I rx ry ⟨_,_,i1.int,i2.int,?_,q _ (mkInt _)⟩
      unfold M.mulOk at hc
      simp only [Bool.or_eq_true,Bool.and_eq_true,decide_eq_true_eq] at hc
      exact hc
    · cases e
  · split at e
    · cases e
    · cases e
      have l3:=lim_eq
      exact iop_add_str pins s σ H x y v u Q I rx ry ⟨_,_,i1.str,i2.str,by omega,q _ (mkStr _)⟩
  · cases e
theorem call_lenD : CallR X (.builtin "len") (rC X.K M.bLen):=by
  intro pins s σ H xs us Q I r h
  obtain ⟨m,st,ds,d,st',R0,ix,e,q⟩:=h
  unfold M.bLen at e
  split at e
  · cases e
    obtain ⟨x,rfl,i⟩:=ix.one
    obtain ⟨p,ys,rfl,hq,iy⟩:=i.tup
    refine call_len_seq pins s σ H _ us Q I r ⟨p,ys,rfl,.inr hq,?_⟩
    rw [← iy.length]
    exact q.here R0 (mkInt _)
  · split at e
    · cases e
    · cases e
      obtain ⟨x,rfl,i⟩:=ix.one
      have l3:=lim_eq
      cases i.str
      exact call_len_str pins s σ H _ us Q I r ⟨_,rfl,by omega,q.here R0 (mkInt _)⟩
  · obtain ⟨ds',e1,e2⟩:=mapD e
    cases e2
    obtain ⟨x,rfl,i⟩:=ix.one
    obtain ⟨p,ys,_,rfl,hq,iy⟩:=R0.seq e1 i
    refine call_len_seq pins s σ H _ us Q I r ⟨p,ys,rfl,.inl hq,?_⟩
    rw [← iy.length]
    exact q.here R0 (mkInt _)
  · cases e
theorem call_minD (hc : X.calm = true) : CallR X (.builtin "min") (rC X.K M.bMin):=by
  intro pins s σ H xs us Q I r h
  obtain ⟨m,st,ds,d,st',R0,ix,e,q⟩:=h
  unfold M.bMin at e
  split at e
  · cases e
    obtain ⟨x,y,rfl,i,j⟩:=ix.two
    cases i.int; cases j.int
    exact call_min2 hc pins s σ H _ us Q I r ⟨_,_,rfl,q.here R0 (mkInt _)⟩
  · cases e
theorem call_maxD (hc : X.calm = true) : CallR X (.builtin "max") (rC X.K M.bMax):=by
  intro pins s σ H xs us Q I r h
  obtain ⟨m,st,ds,d,st',R0,ix,e,q⟩:=h
  unfold M.bMax at e
  split at e
  · cases e
    obtain ⟨x,y,rfl,i,j⟩:=ix.two
    cases i.int; cases j.int
    exact call_max2 hc pins s σ H _ us Q I r ⟨_,_,rfl,q.here R0 (mkInt _)⟩
  · cases e
theorem call_tupleD : CallR X (.type "tuple") (rC X.K M.bTuple):=by
  intro pins s σ H xs us Q I r h
  obtain ⟨m,st,ds,d,st',R0,ix,e,q⟩:=h
  unfold M.bTuple at e
  split at e
  · cases e
    obtain ⟨x,rfl,i⟩:=ix.one
    obtain ⟨p,ys,rfl,hq,iy⟩:=i.tup
    exact call_tuple_of pins s σ H _ us Q I r ⟨p,ys,rfl,.inr ⟨hq,q.here R0 (mkTup hq iy)⟩⟩
  · obtain ⟨ds',e1,e2⟩:=mapD e
    cases e2
    obtain ⟨x,rfl,i⟩:=ix.one
    obtain ⟨p,ys,_,rfl,hq,iy⟩:=R0.seq e1 i
    refine call_tuple_of pins s σ H _ us Q I r ⟨p,ys,rfl,.inl ⟨hq,fun l hl=>?_⟩⟩
    have sm:=same_new (o:=.tup ys) hl
    exact q _ m _ (Sub.refl m) (Tr.of_same sm) (R0.same sm) (mkTup (SqT.of upd_same) (isDs_mono (Sub.refl m) (Tr.of_same sm) _ _ iy))
  · cases e
theorem call_listD : CallR X (.type "list") (rC X.K M.bList):=by
  intro pins s σ H xs us Q I r h
  obtain ⟨m,st,ds,d,st',R0,ix,e,q⟩:=h
  unfold M.bList at e
  split at e
  · cases e
    obtain ⟨x,rfl,i⟩:=ix.one
    obtain ⟨p,ys,rfl,hq,iy⟩:=i.tup
    refine call_list_of pins s σ H _ us Q I r ⟨p,ys,rfl,.inr hq,fun l hl=>?_⟩
    exact q _ (m++[l]) _ (Sub.app m [l]) (Tr.of_same (same_new hl)) (R0.new hl iy) R0.newLoc
  · obtain ⟨ds',e1,e2⟩:=mapD e
    cases e2
    obtain ⟨x,rfl,i⟩:=ix.one
    obtain ⟨p,ys,_,rfl,hq,iy⟩:=R0.seq e1 i
    refine call_list_of pins s σ H _ us Q I r ⟨p,ys,rfl,.inl hq,fun l hl=>?_⟩
    exact q _ (m++[l]) _ (Sub.app m [l]) (Tr.of_same (same_new hl)) (R0.new hl iy) R0.newLoc
  · cases e
theorem bools_of {K : PySem.W.Frag} {m : List Addr} {H : Hp} : ∀ {ds : List D} {xs : List V} {its : List Value} {bs : List Bool},M.asBools ds = some bs→IsDs K m H ds xs→Vals xs its→LSm.BoolsAre its bs
  | [],_,_,_,e,ix,r=>by
    rw [ix.nil] at r
    cases r
    cases e
    exact .nil
  | d::ds,_,_,_,e,ix,r=>by
    obtain ⟨x,xr,rfl,q,t⟩:=ix.cons
    cases d with
    | bl b =>
      simp only [M.asBools] at e
      obtain ⟨bs',e1,e2⟩:=mapD e
      subst e2
      cases q.bl
      cases r with
      | cons r1 r2 =>
        cases r1
        exact .cons b (bools_of e1 t r2)
    | _=>simp [M.asBools] at e
theorem ints_of {K : PySem.W.Frag} {m : List Addr} {H : Hp} : ∀ {ds : List D} {xs : List V} {ns : List Int},M.asInts ds = some ns→IsDs K m H ds xs→xs = ns.map V.int∧ds = ns.map D.int
  | [],_,_,e,ix=>by
    cases e
    exact ⟨ix.nil,rfl⟩
  | d::ds,_,_,e,ix=>by
    obtain ⟨x,xr,rfl,q,t⟩:=ix.cons
    cases d with
    | int b =>
      simp only [M.asInts] at e
      obtain ⟨bs',e1,e2⟩:=mapD e
      subst e2
      cases q.int
      obtain ⟨h1,h2⟩:=ints_of e1 t
      rw [h1,h2]
      exact ⟨rfl,rfl⟩
    | _=>simp [M.asInts] at e
theorem call_allD (hc : X.calm = true) : CallR X (.builtin "all") (rC X.K M.bAll):=by
  intro pins s σ H xs us Q I r h
  obtain ⟨m,st,ds,d,st',R0,ix,e,q⟩:=h
  unfold M.bAll at e
  split at e
  · obtain ⟨ds',e1,e⟩:=bindO e
    obtain ⟨bs,e2,e3⟩:=mapD e
    cases e3
    obtain ⟨x,rfl,i⟩:=ix.one
    obtain ⟨p,ys,_,rfl,hq,iy⟩:=R0.seq e1 i
    obtain ⟨u,rfl,ru⟩:=vals1 r
    cases ru
    obtain ⟨its,rv,pl,_⟩:=I.list hq
    have hb:=bools_of e2 iy rv
    have hl:=pl.isList
    have hlt : p < s.heap.objs.size:=by obtain ⟨_,e,_⟩:=id hl; exact Heap.lt_size e
    refine call_all_walk (wpAny_pyIter_list hl ?_)
    refine ⟨s.heap.objs.size,[s.heap.objs.size,p],[s.heap.objs.size],its.toArray.size,_,_,fun i=>(bs[i]?).getD true,rfl,Walks.list (A:=X.A.in1) (I.ok.hd hc) _ p (Nat.ne_of_lt hlt) its.toArray,
      ⟨⟨_,Heap.get?_push_size _ rfl,rfl,rfl⟩,hl.push _⟩,fun i v s' Q' E' hP hQ=>?_,fun h' tk hk=>?_⟩
    · obtain ⟨b,e,rfl⟩:=hb.get i v (by simpa using hP)
      simp only [e,Option.getD_some] at hQ
      exact wpAny_truthy_bool hQ
    · have e : ((List.range its.toArray.size).all fun i=>(bs[i]?).getD true) = bs.all id:=by
        rw [List.size_toArray,hb.length]; exact LSm.range_all bs
      rw [e]
      exact ⟨.bl _,H,I.kept (LSm.kept_iter hk),rfl,q.here R0 (mkBl _)⟩
  · cases e
theorem insInt_perm (x : Int) : ∀ l : List Int,(M.insInt x l).Perm (x::l)
  | []=>.refl _
  | y::r=>by
    unfold M.insInt
    split
    · exact .refl _
    · exact ((insInt_perm x r).cons y).trans (.swap x y r)
theorem sortInt_perm : ∀ l : List Int,(M.sortInt l).Perm l
  | []=>.refl _
  | x::r=>by
    unfold M.sortInt
    exact (insInt_perm x _).trans ((sortInt_perm r).cons x)
theorem insInt_sorted (x : Int) : ∀ l : List Int,l.Pairwise (· ≤ ·)→(M.insInt x l).Pairwise (· ≤ ·)
  | [],_=>by unfold M.insInt; simp
  | y::r,h=>by
    unfold M.insInt
    split
    · rename_i hx
      refine List.Pairwise.cons (fun z hz=>?_) h
      rcases List.mem_cons.mp hz with e | e
      · rw [e]; exact hx
      · exact Int.le_trans hx ((List.pairwise_cons.mp h).1 z e)
    · rename_i hx
      have h':=List.pairwise_cons.mp h
      refine List.Pairwise.cons (fun z hz=>?_) (insInt_sorted x r h'.2)
      rcases List.mem_cons.mp ((insInt_perm x r).mem_iff.mp hz) with e | e
      · rw [e]; omega
      · exact h'.1 z e
theorem sortInt_sorted : ∀ l : List Int,(M.sortInt l).Pairwise (· ≤ ·)
  | []=>by unfold M.sortInt; simp
  | x::r=>by
    unfold M.sortInt
    exact insInt_sorted x _ (sortInt_sorted r)
theorem isDs_ints {K : PySem.W.Frag} {m : List Addr} {H : Hp} : ∀ (ns : List Int),IsDs K m H (ns.map D.int) (ns.map V.int)
  | []=>mkNil
  | n::r=>mkCons (mkInt n) (isDs_ints r)
theorem call_sortedD : CallR X (.builtin "sorted") (rC X.K M.bSorted):=by
  intro pins s σ H xs us Q I r h
  obtain ⟨m,st,ds,d,st',R0,ix,e,q⟩:=h
  unfold M.bSorted at e
  split at e
  · obtain ⟨ds',e1,e⟩:=bindO e
    obtain ⟨ns,e2,e3⟩:=mapD e
    cases e3
    split at e2
    · cases e2
    · rename_i h64
      obtain ⟨x,rfl,i⟩:=ix.one
      obtain ⟨p,ys,_,rfl,hq,iy⟩:=R0.seq e1 i
      obtain ⟨u,rfl,ru⟩:=vals1 r
      cases ru
      obtain ⟨its,rv,pl,_⟩:=I.list hq
      obtain ⟨e4,e5⟩:=ints_of e2 iy
      have l1:=iy.length
      have l2:=rv.length
      subst e4
      have hI : IntsAre its ns:=intsAre_of rv
      refine sorted_ints pl.isList hI (by omega) fun out ns' a1 a2 a3=>?_
      have e6 : ns' = M.sortInt ns:=PySem.W.ksm_same (a2.trans (sortInt_perm ns).symm) a3 (sortInt_sorted ns)
      subst e6
      obtain ⟨ep,he⟩:=sortedAll_at s.heap its out
      have fr : H (s.heap.objs.size + 1) = none:=I.hok.fresh (Nat.le_succ _)
      have l3:=(sortInt_perm ns).length_eq
      have l4:=lim_eq
      rw [List.length_map] at l1
      refine ⟨.ref (s.heap.objs.size + 1),upd H (s.heap.objs.size + 1) (.lst ((M.sortInt ns).map V.int)),I.laid (t':=s.toks) (fun b o e=>sortedAll_old e) (Nat.le_succ _) ?_,rfl,?_⟩
      · refine ⟨?_,out.toList,ep,vals_ints a1,?_⟩
        · rw [List.length_map,l3,l4]
          unfold M.lim
          omega
        · rw [he]
      · exact q _ (m++[_]) _ (Sub.app m _) (Tr.of_same (same_new fr)) (R0.new fr (isDs_ints _)) R0.newLoc
  · cases e
theorem kit_one (K : PySem.W.Frag) (n t : M.Ty) (ht : t ≠ .non) : PySem.W.kitOne K (.type n.name) (.type t.name) = some (M.tyIs t n):=by
  cases n <;> cases t <;> first
    | exact absurd rfl ht
    | rfl
    | decide +kernel
theorem kit_any (K : PySem.W.Frag) (n : M.Ty) : ∀ ts : List M.Ty,(∀ t ∈ ts,t ≠ .non)→PySem.W.kitAny K (.type n.name) (ts.map fun t=>Value.type t.name) = some (ts.any fun t=>M.tyIs t n)
  | [],_=>rfl
  | t::ts,h=>by
    rw [List.map_cons,List.any_cons]
    unfold PySem.W.kitAny
    rw [kit_one K n t (h t List.mem_cons_self)]
    cases M.tyIs t n with
    | true=>rfl
    | false=>exact kit_any K n ts fun t' ht=>h t' (List.mem_cons_of_mem _ ht)
theorem kit_of {pins : List (Addr × Obj)} {σ : L2.St} {H : Hp} {s : Shared} {m : List Addr} {st : Store} {d : D} {x : V} {u : Value} {n : M.Ty} (I : Inv X pins σ H s) (R0 : Rel X.K m st H) (h : IsD X.K m H d x) (r : RelV x u) (e : M.tyName st d = some n) :
    ∃ Hf : Heap→Prop,PySem.W.KitX X.K u (.type n.name) Hf∧Hf s.heap∧u ≠ .builtin "__main__.__loader__#opaque":=by
  cases d with
  | non=>cases h.non; cases r; cases e; exact ⟨_,PySem.W.kitx_none,True.intro,fun z=>nomatch z⟩
  | bl b=>cases h.bl; cases r; cases e; exact ⟨_,PySem.W.kitx_bool,True.intro,fun z=>nomatch z⟩
  | int b=>cases h.int; obtain ⟨t,rfl⟩:=r; cases e; exact ⟨_,PySem.W.kitx_int,True.intro,fun z=>nomatch z⟩
  | str b=>cases h.str; obtain ⟨t,rfl⟩:=r; cases e; exact ⟨_,PySem.W.kitx_str,True.intro,fun z=>nomatch z⟩
  | tup ds =>
    obtain ⟨a,xs,its,rfl,hq,ix,r1,p1⟩:=isD_tuple I h
    cases r
    cases e
    obtain ⟨o,h1,h2,_⟩:=p1
    exact ⟨_,PySem.W.kitx_tuple,⟨o,h1,h2⟩,fun z=>nomatch z⟩
  | loc l =>
    simp only [M.tyName] at e
    obtain ⟨ds,e1,e2⟩:=mapD e
    subst e2
    obtain ⟨a,xs,_,rfl,hq,ix⟩:=R0.seq e1 h
    cases r
    obtain ⟨its,rv,pl,_⟩:=I.list hq
    obtain ⟨o,h1,h2,_⟩:=pl.isList
    exact ⟨_,PySem.W.kitx_list,⟨o,h1,h2⟩,fun z=>nomatch z⟩
  | lst l =>
    simp only [M.tyName] at e
    obtain ⟨ds,e1,e2⟩:=mapD e
    subst e2
    obtain ⟨a,xs,_,rfl,hq,ix⟩:=R0.seq e1 h
    cases r
    obtain ⟨its,rv,pl,_⟩:=I.list hq
    obtain ⟨o,h1,h2,_⟩:=pl.isList
    exact ⟨_,PySem.W.kitx_list,⟨o,h1,h2⟩,fun z=>nomatch z⟩
def rIsi1 (K : PySem.W.Frag) (t : M.Ty) : List V→Hp→VK→Prop:=fun xs H Q=>∃ m st d n x,xs = [x,.ty t.name]∧Rel K m st H∧IsD K m H d x∧M.tyName st d = some n∧Q (.bl (M.tyIs t n)) H
theorem call_isi1 (t : M.Ty) (ht : t ≠ .non) : CallR X (.builtin "isinstance") (rIsi1 X.K t):=by
  intro pins s σ H xs us Q I r h
  obtain ⟨m,st,d,n,x,rfl,R0,i,e,q⟩:=h
  obtain ⟨u,w,rfl,ru,rw'⟩:=vals2 r
  cases rw'
  obtain ⟨Hf,Z,p,hx⟩:=kit_of I R0 i ru e
  exact PySem.W.kia_one Z I.kIn p (kit_one X.K n t ht) hx fun tk=>⟨.bl _,H,I.tok tk,rfl,q⟩
def rIsiN (K : PySem.W.Frag) (ts : List M.Ty) : List V→Hp→VK→Prop:=fun xs H Q=>∃ m st d n x p,xs = [x,.ref p]∧H p = some (.tup (ts.map fun t=>V.ty t.name))∧Rel K m st H∧IsD K m H d x∧M.tyName st d = some n∧Q (.bl (ts.any fun t=>M.tyIs t n)) H
theorem vals_tys : ∀ {ts : List M.Ty} {us : List Value},Vals (ts.map fun t=>V.ty t.name) us→us = ts.map fun t=>Value.type t.name
  | [],_,.nil=>rfl
  | t::ts,_,.cons r q=>by
    cases r
    rw [vals_tys q]
    rfl
theorem call_isiN (ts : List M.Ty) (ht : ∀ t ∈ ts,t ≠ .non) : CallR X (.builtin "isinstance") (rIsiN X.K ts):=by
  intro pins s σ H xs us Q I r h
  obtain ⟨m,st,d,n,x,p,rfl,hp,R0,i,e,q⟩:=h
  obtain ⟨u,w,rfl,ru,rw'⟩:=vals2 r
  cases rw'
  obtain ⟨Hf,Z,pz,hx⟩:=kit_of I R0 i ru e
  obtain ⟨_,its,rv,⟨cls,dd,data,sl⟩,h1,h2,nn,h3⟩:=I.hok p _ hp
  have e1:=vals_tys rv
  subst e1
  simp only at h2 h3
  subst h2 h3
  exact PySem.W.kia_tup Z I.kIn pz h1 (kit_any X.K n ts ht) hx fun tk=>⟨.bl _,H,I.tok tk,rfl,q⟩
end
end MS
end
section
set_option linter.all false
set_option Elab.async false
set_option maxRecDepth 100000
set_option maxHeartbeats 4000000
namespace MS
open PySem PySem.Spec PyProof.Rows L2
def closL (cells : List (Str × Addr)) : List (Str × NameKind)→List (Str × Addr)→List (Str × Addr)
  | [],acc=>acc
  | (n,k)::r,acc=>closL cells r (if k == .free then (match cells.lookup n with | some a=>(n,a)::acc | none=>acc) else acc)
theorem clos_loop {env : Env} : ∀ (names : List (Str × NameKind)) (acc : List (Str × Addr)),(∀ x ∈ names,x.2 = .free→∃ c,env.cells.lookup x.1 = some c) →
    (forIn names acc fun x r=>match x,r with
      | (name,kind),cs=>if (kind == .free) = true then do let a ← cellOf env name; pure (ForInStep.yield ((name,a)::cs)) else pure (ForInStep.yield cs) : Sem (List (Str × Addr))) = pure (closL env.cells names acc):=by
  intro names
  induction names with
  | nil=>intro acc _; rfl
  | cons x r ih =>
    intro acc h
    obtain ⟨n,k⟩:=x
    rw [List.forIn_cons]
    have hr:=fun acc=>ih acc fun y hy=>h y (List.mem_cons_of_mem _ hy)
    by_cases hk : k = .free
    · subst hk
      obtain ⟨c,hc⟩:=h (n,.free) List.mem_cons_self rfl
      simp only [beq_self_eq_true,if_true,cellOf,hc]
      show (do let r_1 ← (do let a ← (pure c : Sem Addr); pure (ForInStep.yield ((n,a)::acc))); match r_1 with | .done b=>pure b | .yield b=>_) = _
      simp only [pure_bind]
      refine (hr ((n,c)::acc)).trans ?_
      have hc' : env.cells.lookup n = some c:=hc
      simp [closL,hc']
    · have hb : (k == NameKind.free) = false:=by simpa using hk
      simp only [hb,Bool.false_eq_true,if_false,pure_bind]
      refine (hr acc).trans ?_
      simp [closL,hb]
theorem closureFor_of {scope : Scope} {env : Env} (h : ∀ x ∈ scope.names,x.2 = .free→∃ c,env.cells.lookup x.1 = some c) : closureFor scope env = pure (closL env.cells scope.names []):=by
  unfold closureFor
  have:=clos_loop (env:=env) scope.names [] h
  simp only [this]
  rfl
theorem closL_in {cells : List (Str × Addr)} {x : Str} {c : Addr} (hc : cells.lookup x = some c) : ∀ (names : List (Str × NameKind)) (acc : List (Str × Addr)),((x,NameKind.free) ∈ names∨acc.lookup x = some c)→(closL cells names acc).lookup x = some c
  | [],acc,h=>by
    rcases h with h | h
    · cases h
    · exact h
  | (n,k)::r,acc,h=>by
    unfold closL
    refine closL_in hc r _ ?_
    by_cases hk : k = .free
    · subst hk
      simp only [beq_self_eq_true,if_true]
      by_cases hn : n = x
      · subst hn
        rw [hc]
        exact .inr (by simp)
      · rcases h with h | h
        · rcases List.mem_cons.mp h with e | e
          · cases e; exact absurd rfl hn
          · exact .inl e
        · refine .inr ?_
          split
          · have : (x == n) = false:=by simpa using Ne.symm hn
            rw [List.lookup_cons,this]; exact h
          · exact h
    · have hb : (k == NameKind.free) = false:=by simpa using hk
      rw [hb,if_neg Bool.false_ne_true]
      rcases h with h | h
      · rcases List.mem_cons.mp h with e | e
        · cases e; exact absurd rfl hk
        · exact .inl e
      · exact .inr h
theorem closL_out {cells : List (Str × Addr)} : ∀ (names : List (Str × NameKind)) (acc : List (Str × Addr)),(∀ x c,acc.lookup x = some c→cells.lookup x = some c)→∀ x c,(closL cells names acc).lookup x = some c→cells.lookup x = some c
  | [],acc,h,x,c,e=>h x c e
  | (n,k)::r,acc,h,x,c,e=>by
    unfold closL at e
    refine closL_out r _ ?_ x c e
    intro y d q
    by_cases hk : (k == NameKind.free) = true
    · rw [if_pos hk] at q
      split at q
      · rename_i a ha
        by_cases hy : (y == n) = true
        · rw [List.lookup_cons,hy] at q
          rw [eq_of_beq hy,ha]; exact q
        · have : (y == n) = false:=by simpa using hy
          rw [List.lookup_cons,this] at q
          exact h y d q
      · exact h y d q
    · rw [if_neg hk] at q
      exact h y d q
theorem relabel_lookup (env : Env) : ∀ (names : List (Str × NameKind)) (x : Str),(names.map fun (n,k)=>if (k == NameKind.free && env.scope.kind == .function && env.kindOf n == some .cell) then (n,NameKind.cell) else (n,k)).lookup x =
    (names.lookup x).map fun k=>if (k == NameKind.free && env.scope.kind == .function && env.kindOf x == some .cell) then NameKind.cell else k
  | [],x=>rfl
  | (n,k)::r,x=>by
    have ih:=relabel_lookup env r x
    rw [List.map_cons]
    by_cases hx : (x == n) = true
    · have e:=eq_of_beq hx
      subst e
      dsimp only
      split
      · rename_i hc
        rw [List.lookup_cons,hx,List.lookup_cons,hx]
        dsimp only [Option.map_some]
        rw [if_pos hc]
      · rename_i hc
        rw [List.lookup_cons,hx,List.lookup_cons,hx]
        dsimp only [Option.map_some]
        rw [if_neg hc]
    · have hx' : (x == n) = false:=by simpa using hx
      dsimp only
      split
      · rw [List.lookup_cons,hx',List.lookup_cons,hx']; exact ih
      · rw [List.lookup_cons,hx',List.lookup_cons,hx']; exact ih
section
variable {prog : Program} {w : World} {A : Around} {R : Result→Shared→Prop} {s : Shared}
abbrev NoX : Value→Shared→Prop:=fun _ _=>False
theorem compLoop_any {elt target iter : Expr} {ifs : List Expr} {scope : Scope} {pos : Pos} {it acc : Value} {env : Env} (I : Nat→Shared→Prop)
    (turn : ∀ n s,I n s→wpAny (model prog w) A (pyNext it) (fun r s₁=>match r with
      | none=>R (.ok .next) s₁
      | some v=>wpAny (model prog w) A (letOwnedTupleGo target it v) (fun _ s₀=>wpAny (model prog w) A (assign target env v) (fun _ s₂ =>
          wpAny (model prog w) A (forIn ifs true fun c r=>if r = true then do let ok ← isTrue c env (eval c env); pure (ForInStep.yield ok) else pure (ForInStep.yield r)) (fun ok s₃ =>
            if ok = true then wpAny (model prog w) A (eval elt env) (fun x s₄=>wpAny (model prog w) A (call (.builtin "list.append") [acc,x]) (fun _ s₅=>∃ m,m < n∧I m s₅) NoX s₄) NoX s₃
            else ∃ m,m < n∧I m s₃) NoX s₂) NoX s₀) NoX s₁) NoX s)
    (n : Nat) (h : I n s) : codeAny (model prog w) A (.compLoop (.ListComp elt [⟨target,iter,ifs,0⟩] scope pos) 0 it acc env) R s:=by
  refine codeAny_loop rfl I (fun n s hI=>?_) n h
  show wpAny _ A ((compTurn (.ListComp elt [⟨target,iter,ifs,0⟩] scope pos) 0 it acc env).onRaise (fun x=>do noteFrame x env; theTreesLotGoes x)) _ _ s
  refine wpAny_noted ?_
  rw [compTurn_list]
  refine wpAny_bind (wpAny_standAt (wpAny_bind (wpAny_mono (turn n s hI) (fun r s₁ h₁=>?_) fun _ _ z=>z.elim)))
  cases r with
  | none=>exact wpAny_pure h₁
  | some v =>
    refine wpAny_bind (wpAny_mono h₁ (fun _ s₀ h₀=>?_) fun _ _ z=>z.elim)
    refine wpAny_bind (wpAny_mono h₀ (fun _ s₂ h₂=>wpAny_bind (wpAny_mono h₂ (fun ok s₃ h₃=>?_) fun _ _ z=>z.elim)) fun _ _ z=>z.elim)
    cases ok with
    | false=>exact wpAny_pure ⟨rfl,h₃⟩
    | true =>
      exact wpAny_bind (wpAny_bind (wpAny_mono h₃ (fun x s₄ h₄=>wpAny_bind (wpAny_mono h₄ (fun _ s₅ h₅=>wpAny_pure (wpAny_pure ⟨rfl,h₅⟩)) fun _ _ z=>z.elim)) fun _ _ z=>z.elim))
end
theorem HOk.track {P : Program} {w : World} {H : Hp} {h : Heap} {a : Addr} {o : HO} (x : HOk P w H h) (hn : H a = none) (new : ObjOk P w (upd H a o) h a o) : HOk P w (upd H a o) h:=fun b u e=>by
  by_cases hb : b = a
  · subst hb; rw [upd_same] at e; cases e; exact new
  · rw [upd_ne hb] at e
    exact (x b u e).stay (fun c v _ q=>q) (fun c q=>by rw [upd_ne (ne_of_none q hn)]; exact q) fun c xs q=>by rw [upd_ne (ne_of_none q hn)]; exact q
theorem Inv.track {X : Cx} {pins : List (Addr × Obj)} {σ : L2.St} {H : Hp} {s : Shared} {a : Addr} {o : HO} (I : Inv X pins σ H s) (hf : FpOk X pins H a) (new : ObjOk X.prog X.w (upd H a o) s.heap a o) : Inv X pins σ (upd H a o) s:=by
  obtain ⟨f0,f1,f2,f3,f4,f5⟩:=hf
  refine I.step (h':=s.heap) (g':=s.gens) (t':=s.toks) (d':=s.drawn) (ch:=[a]) (fun b hb=>?_) (fun b o _ _ _ e _=>e) (fun b o _ _ _ e _=>⟨o.slots,e⟩) (fun b o hb e n=>?_) (fun b o _ e=>⟨o,e⟩)
    (fun b xs e=>by rw [upd_ne (ne_of_none e f0)]; exact e) (fun b o u e=>by rw [upd_ne (ne_of_none e f0)]; exact e) (fun b ps e=>⟨#[],by rw [upd_ne (ne_of_none e f0),e]; simp⟩) (fun m h=>h) (HOk.track I.hok f0 new) I.bare
  · have e : b = a:=by simpa using hb
    subst e
    exact ⟨f3,f1,f4,f5⟩
  · rw [upd_ne (by simpa using hb)]; exact n
def cxComp (X : Cx) (N : List Str) (scope : Scope) (C : Addr) (fp : List Addr) (s : Shared) (H : Hp) : Cx :=
  { X with N:=N,s₀:=s,H₀:=H,env:=compEnvC scope (closL X.env.cells scope.names []) C X.env,outer:=X.stack,ex:=fp,fn:=fun _=>false,pn:=[],xe:=fun _ _=>False }
def innerS (src : List (Option Nat)) (σ : L2.St) : L2.St:=src.map fun o=>o.bind fun i=>(σ[i]?).bind id
structure CompScope (X : Cx) (N : List Str) (src : List (Option Nat)) (scope : Scope) : Prop where
  kind : scope.kind = .function
  cell : ∀ y ∈ scope.names,y.2 ≠ .cell
  free : ∀ y ∈ scope.names,y.2 = .free→X.env.kindOf y.1 = some .cell∨X.env.kindOf y.1 = some .free
  loc : ∀ y ∈ scope.names,y.2 = .local→scope.names.lookup y.1 = some .local
  len : src.length = N.length
  src : ∀ (j i : Nat),src[j]? = some (some i)→∃ x,N[j]? = some x∧X.N[i]? = some x∧scope.names.lookup x = some .free
section
variable {X : Cx} {pins : List (Addr × Obj)} {σ : L2.St} {H : Hp} {s : Shared}
theorem mem_lookup {names : List (Str × NameKind)} {x : Str} {k : NameKind} (h : names.lookup x = some k) : (x,k) ∈ names:=PySem.mem_of_lookup h
theorem comp_clos {N : List Str} {src : List (Option Nat)} {scope : Scope} (S : CompScope X N src scope) (I : Inv X pins σ H s) : closureFor scope X.env = pure (closL X.env.cells scope.names []) :=
  closureFor_of fun x hx hk=>I.ok.has x.1 (S.free x hx hk)
theorem comp_ok {N : List Str} {src : List (Option Nat)} {scope : Scope} {C : Addr} {fp : List Addr} (S : CompScope X N src scope) (I : Inv X pins σ H s) (hC : s.heap.objs.size ≤ C) (hfp : ∀ b ∈ fp,FpOk X pins H b) (hlt : ∀ b ∈ fp,b < s.heap.objs.size) : (cxComp X N scope C fp s H).Ok where
  mod:=I.ok.mod
  kind:=S.kind
  glob:=I.ok.glob
  blt:=I.ok.blt
  above:=hC
  inj:=fun x y c h1 h2=>I.ok.inj x y c (closL_out _ [] (fun _ _ z=>nomatch z) x c h1) (closL_out _ [] (fun _ _ z=>nomatch z) y c h2)
  has:=fun x h=>by
    have e : (cxComp X N scope C fp s H).env.kindOf x = (scope.names.lookup x).map fun k=>if (k == NameKind.free && X.env.scope.kind == .function && X.env.kindOf x == some .cell) then NameKind.cell else k:=relabel_lookup X.env scope.names x
    rw [e] at h
    cases q : scope.names.lookup x with
    | none=>rw [q] at h; rcases h with h | h <;> cases h
    | some k =>
      have hk : k = .free:=by
        rw [q] at h
        simp only [Option.map_some,Option.some.injEq] at h
        by_cases hc : (k == NameKind.free && X.env.scope.kind == .function && X.env.kindOf x == some .cell) = true
        · simp only [Bool.and_eq_true] at hc
          exact eq_of_beq hc.1.1
        · rw [if_neg hc] at h
          rcases h with h | h
          · subst h; exact absurd rfl (S.cell _ (mem_lookup q))
          · exact h
      subst hk
      have hm:=mem_lookup q
      obtain ⟨c,hc⟩:=I.ok.has x (S.free _ hm rfl)
      exact ⟨c,closL_in hc _ _ (.inl hm)⟩
  cab:=fun x c h=>by cases h
  hd:=I.ok.hd
  frames:=I.ok.frames
  stk:=.inl rfl
  exf:=fun b hb=>⟨Nat.ne_of_lt (Nat.lt_of_lt_of_le (hlt b hb) hC),fun x c e=>(hfp b hb).2.2.2.2.1 x c (closL_out _ [] (fun _ _ z=>nomatch z) x c e)⟩
  bs:=I.bs
  bsz:=Nat.le_trans I.ok.bsz I.sz
  noex:=fun b o e hb=>by
    rcases (hfp b hb).2.2.2.1 with z | z
    · exact I.ok.noex b o e z
    · exact absurd (Nat.lt_of_lt_of_le (Heap.lt_size e) (Nat.le_trans I.ok.bsz z)) (Nat.lt_irrefl _)
  exfs:=fun b hb hf=>by
    have f:=hfp b hb
    rcases List.mem_cons.mp (I.stkSub b hf) with z | z
    · exact f.2.1 z
    · exact f.2.2.1 z
  funs:=I.stack
  frf:=I.stkFree
theorem comp_start {N : List Str} {src : List (Option Nat)} {scope : Scope} {C : Addr} {fp : List Addr} {h' : Heap} {tk : Nat} {m' : Str→Option Value} (S : CompScope X N src scope) (I : Inv X pins σ H s) (hC : s.heap.objs.size ≤ C) (hfp : ∀ b ∈ fp,FpOk X pins H b) (hlt : ∀ b ∈ fp,b < s.heap.objs.size)
    (kp : ∀ b o,s.heap.get? b = some o→h'.get? b = some o) (ns : h'.Ns C m') : Inv (cxComp X N scope C fp s H) [] (innerS src σ) H { s with heap:=h',toks:=tk }:=by
  have O:=comp_ok S I hC hfp hlt
  refine ⟨O,rfl,I.bare,Un.kept kp,⟨m',ns,fun j x v hN hσ hv=>?_⟩,fun x c e=>?_,I.hok.fresh hC,fun x c e=>?_,fun p hp=>absurd (show p ∈ ([] : List (Addr × Obj)) from hp) (by simp),I.hok.kept kp,?_⟩
  · unfold innerS at hσ
    rw [List.getElem?_map] at hσ
    cases q : src[j]? with
    | none=>rw [q] at hσ; cases hσ
    | some o =>
      rw [q] at hσ
      cases o with
      | none=>cases hσ
      | some i =>
        obtain ⟨x',e1,e2,e3⟩:=S.src j i q
        have hN : N[j]? = some x:=hN
        rw [hN] at e1
        cases e1
        have hi : σ[i]? = some (some v):=by
          cases z : σ[i]? with
          | none=>simp [z] at hσ
          | some w =>
            cases w with
            | none=>simp [z] at hσ
            | some w=>simpa [z] using hσ
        obtain ⟨m0,hn0,hl0⟩:=I.loc
        have hk:=S.free _ (mem_lookup e3) rfl
        have vis : Vis X.env.scope x:=by
          rcases hk with z | z
          · exact .inr (.inl z)
          · exact .inr (.inr z)
        obtain ⟨u,ru,lk⟩:=hl0 i x v e2 hi vis
        refine ⟨u,ru,?_⟩
        rcases lk with ⟨z,_⟩ | ⟨_,c,hc,hcell⟩
        · rcases hk with y | y
          · rw [y] at z; cases z
          · rw [y] at z; cases z
        · refine .inr ⟨?_,c,closL_in hc _ _ (.inl (mem_lookup e3)),?_⟩
          · have e : (cxComp X N scope C fp s H).env.kindOf x = (scope.names.lookup x).map fun k=>if (k == NameKind.free && X.env.scope.kind == .function && X.env.kindOf x == some .cell) then NameKind.cell else k:=relabel_lookup X.env scope.names x
            rw [e,e3]
            simp only [Option.map_some,Option.some.injEq]
            by_cases hc : (NameKind.free == NameKind.free && X.env.scope.kind == .function && X.env.kindOf x == some .cell) = true
            · rw [if_pos hc]; exact .inl rfl
            · rw [if_neg hc]; exact .inr rfl
          · obtain ⟨o,ho,hd⟩:=hcell
            exact ⟨o,kp c o ho,hd⟩
  · have e':=closL_out _ [] (fun _ _ z=>nomatch z) x c e
    obtain ⟨v,o,ho,hd⟩:=I.cell x c e'
    exact ⟨v,o,kp c o ho,hd⟩
  · exact I.freeC x c (closL_out _ [] (fun _ _ z=>nomatch z) x c e)
  · unfold innerS
    rw [List.length_map]
    exact S.len
end
def TestR (X : Cx) (ifs : List Expr) (tt : TT) : Prop:=∀ (pins : List (Addr × Obj)) (s : Shared) (σ : L2.St) (H : Hp) (Q : Bool→Hp→Prop),Inv X pins σ H s→tt σ H Q →
  wpAny (model X.prog X.w) X.A (forIn ifs true fun c r=>if r = true then do let ok ← isTrue c X.env (eval c X.env); pure (ForInStep.yield ok) else pure (ForInStep.yield r)) (TP X pins σ Q) X.xe s
theorem test_nil {X : Cx} : TestR X [] (fun _ H Q=>Q true H):=fun pins s σ H Q I h=>by
  show wpAny _ _ (pure true) _ _ _
  exact wpAny_pure ⟨H,I,h⟩
theorem test_one {X : Cx} {c : Expr} {tc : TT} (hc : PT X c tc) : TestR X [c] tc:=fun pins s σ H Q I h=>by
  rw [List.forIn_cons]
  simp only [if_true]
  refine wpAny_bind (wpAny_bind (thn (hc pins s σ H Q I h) fun b s1 q=>wpAny_pure ?_))
  show wpAny _ _ (pure b) _ _ _
  exact wpAny_pure q
theorem comp_block {X : Cx} {pins : List (Addr × Obj)} {σ : L2.St} {H : Hp} {s : Shared} {elt tg iter : Expr} {ifs : List Expr} {scope : Scope} {pos : Pos} {it : Addr} {fp : List Addr} {tn : Nat→Heap→Prop} {J : It} {N : List Str} {src : List (Option Nat)}
    {g : TG} {tt : TT} {te : TE} {E : Value→Shared→Prop} {Fin : List V→Hp→Prop} {RR : Value→Addr→Result→Shared→Prop} (hc : X.calm = true) (I : Inv X pins σ H s) (T : Turn X.prog X.w X.K tg J fp it tn) (st0 : tn 0 s.heap) (hfp : ∀ b ∈ fp,FpOk X pins H b) (S : CompScope X N src scope)
    (hg : ∀ C,PG (cxComp X N scope C fp s H) tg g) (ht : ∀ C,TestR (cxComp X N scope C fp s H) ifs tt) (he : ∀ C,PE (cxComp X N scope C fp s H) elt te)
    (W : Nat→Nat→List V→L2.St→Hp→Prop) (w0 : ∃ k,W 0 k [] (innerS src σ) H)
    (step : ∀ i k acc σ H,W i k acc σ H→(J.stop i H∧acc.length ≤ sizeLine∧Fin acc H)∨(J.go i H∧acc.length < sizeLine∧∀ x H',J.yld i H x H'→g x σ H' fun σ2 H2=>tt σ2 H2 fun b H3 =>
      if b = true then te σ2 H3 fun v H4=>∃ k',k' < k∧W (i + 1) k' (acc++[v]) σ2 H4 else ∃ k',k' < k∧W (i + 1) k' acc σ2 H3))
    (hRR : ∀ D C s' H' acc,Fin acc H'→H' D = none→Inv X pins σ (upd H' D (.lst acc)) s'→FpOk X pins (upd H' D (.lst acc)) C→(∃ m,s'.heap.Ns C m)→RR (.ref D) C (.ok .next) s') :
    wpAny (model X.prog X.w) X.A (newList []) (fun acc s₃=>wpAny (model X.prog X.w) X.A (newFunctionEnv scope X.env.globals (closL X.env.cells scope.names []) [] X.env.qual none .none (some X.env)) (fun cenv s₄ =>
      codeAny (model X.prog X.w) X.A (.compStart (.ListComp elt [⟨tg,iter,ifs,0⟩] scope pos) 0 (.ref it) acc { cenv with scope:=relabel scope X.env }) (RR acc cenv.locals) s₄) E s₃) E s:=by
  have hlt : ∀ b ∈ fp,b < s.heap.objs.size:=fun b hb=>by obtain ⟨o,e,_⟩:=T.obj 0 _ st0 b hb; exact Heap.lt_size e
  refine wpAny_newObj_type (wpAny_newFunctionEnv S.cell (by intro y hy; simp at hy) (fun h₁ hns₁ hsb₁=>?_) S.kind)
  dsimp only at hns₁ hsb₁ ⊢
  generalize hH2 : s.heap.push { cls:=.type "list",dict:=none,data:=.seq ([] : List Value).toArray } = H2 at hns₁ hsb₁ ⊢
  have hC : H2.objs.size = s.heap.objs.size + 1:=by rw [← hH2,Heap.size_push]
  have hDC : s.heap.objs.size ≠ H2.objs.size:=by rw [hC]; exact Nat.ne_of_lt (Nat.lt_succ_self _)
  have hCle : s.heap.objs.size ≤ H2.objs.size:=by rw [hC]; exact Nat.le_succ _
  have old : ∀ b o,s.heap.get? b = some o→h₁.get? b = some o:=fun b o e=>hsb₁.extBut b o (by rw [hC]; exact Nat.ne_of_lt (Nat.lt_succ_of_lt (Heap.lt_size e))) (Heap.get?_push_of_some _ (hH2 ▸ Heap.get?_push_of_some _ e))
  have hacc : h₁.get? s.heap.objs.size = some { cls:=.type "list",data:=.seq ([] : List Value).toArray }:=hsb₁.extBut _ _ hDC (Heap.get?_push_of_some _ (hH2 ▸ Heap.get?_push_size _ rfl))
  -- the block's own names
  generalize hDd : s.heap.objs.size = Dd at hDC hCle hacc
  generalize hCc : H2.objs.size = Cc at hDC hCle hns₁ hsb₁ hC ⊢
  have hDs : s.heap.objs.size ≤ Dd:=Nat.le_of_eq hDd
  have hCs : s.heap.objs.size ≤ Cc:=by rw [hDd]; exact hCle
  have fD : H Dd = none:=I.hok.fresh hDs
  have I1 : Inv (cxComp X N scope Cc fp s H) [] (innerS src σ) H { s with heap:=h₁,toks:=s.toks + ([] : List (Str × Value)).length }:=comp_start S I hCs hfp hlt old hns₁
  have nfp : ∀ b ∈ fp,b ≠ Dd:=fun b hb=>by rw [← hDd]; exact Nat.ne_of_lt (hlt b hb)
  have cellD : ∀ x c,(cxComp X N scope Cc fp s H).env.cells.lookup x = some c→c ≠ Dd:=fun x c e z=>by
    have e':=closL_out _ [] (fun _ _ z=>nomatch z) x c e
    obtain ⟨v,o,ho,_⟩:=I.cell x c e'
    rw [z,← hDd] at ho
    exact Nat.lt_irrefl _ (Heap.lt_size ho)
  have fsD : Dd ∉ (cxComp X N scope Cc fp s H).fs:=fun z=>by
    obtain ⟨_,o,ho,_⟩:=I1.ok.funs.mem z
    have ho : s.heap.get? Dd = some o:=ho
    rw [← hDd] at ho
    exact Nat.lt_irrefl _ (Heap.lt_size ho)
  have stat : ∀ {pl : List (Addr × Obj)} {H' : Hp},(∀ p ∈ pl,p.1 = Dd)→(∀ b ∈ fp,H' b = none)→∀ b ∈ fp,FpOk (cxComp X N scope Cc fp s H) pl H' b:=fun {pl H'} hpl hn b hb =>
    ⟨hn b hb,(I1.ok.exf b hb).1,I1.ok.exfs b hb,.inl hb,(I1.ok.exf b hb).2,fun p hp=>by
      have hp' : p ∈ pl:=hp
      rw [hpl p hp']; exact (nfp b hb).symm⟩
  obtain ⟨k0,w0⟩:=w0
  have loop : ∀ s₃ : Shared,s₃ = { s with heap:=h₁,toks:=s.toks + ([] : List (Str × Value)).length } →
      codeAny (model X.prog X.w) X.A (.compLoop (.ListComp elt [⟨tg,iter,ifs,0⟩] scope pos) 0 (.ref it) (.ref Dd) (compEnvC scope (closL X.env.cells scope.names []) Cc X.env)) (RR (.ref Dd) Cc) s₃:=by
    rintro s₃ rfl
    refine compLoop_any (fun k s'=>∃ i acc its nn σ' H',Inv (cxComp X N scope Cc fp s H) [] σ' H' s'∧tn i s'.heap∧(∀ b ∈ fp,H' b = none)∧W i k acc σ' H'∧Vals acc its∧s'.heap.get? Dd = some { cls:=.type "list",data:=.seq its.toArray nn }∧H' Dd = none) ?_ k0
      ⟨0,[],[],0,innerS src σ,H,I1,T.keep _ _ _ st0 fun b _ o e=>old b o e,fun b hb=>(hfp b hb).1,w0,.nil,hacc,fD⟩
    rintro k s3 ⟨i,acc,its,nn,σ3,H3,I3,t3,fr3,w3,rv,ho3,nD3⟩
    have I3' : Inv (cxComp X N scope Cc fp s H) [(Dd,{ cls:=.type "list",data:=.seq its.toArray nn })] σ3 H3 s3:=I3.pins_of fun p hp=>by
      have e : p = (Dd,{ cls:=.type "list",data:=.seq its.toArray nn }):=by simpa using hp
      subst e
      exact ⟨ho3,nD3,hDC,fsD,fun v z=>by
        have z' : Data.seq its.toArray nn = Data.cell v:=z
        cases z'⟩
    rcases step i k acc σ3 H3 w3 with ⟨stop,hz,fin⟩ | ⟨go,hz,next⟩
    · refine thn (T.done (cxComp X N scope Cc fp s H) rfl rfl rfl hc i _ s3 σ3 H3 NoX I3' (stat (fun p hp=>by rw [List.mem_singleton.mp hp]) fr3) t3 stop) fun r s4 ⟨hr,I4⟩=>?_
      subst hr
      have p4:=I4.pin (Dd,{ cls:=.type "list",data:=.seq its.toArray nn }) (List.mem_append_right _ (by simp))
      have I5 : Inv X pins σ H3 s4:=I.call' I4.os I4.base I4.hok I4.bare fun b hb=>⟨(hfp b hb).2.2.2.1,(hfp b hb).2.1,(hfp b hb).2.2.2.2.1,(hfp b hb).2.2.2.2.2⟩
      have fpD : FpOk X pins H3 Dd:=I.fpOk hDs nD3
      refine hRR Dd Cc s4 H3 acc fin nD3 (Inv.track I5 fpD ⟨hz,its,nn,rv,p4.1⟩) (I.fpOk hCs (by rw [upd_ne (Ne.symm hDC)]; exact I4.free)) ?_
      obtain ⟨m4,n4,_⟩:=I4.loc
      exact ⟨m4,n4⟩
    · refine thn (T.item (cxComp X N scope Cc fp s H) rfl rfl rfl hc i _ s3 σ3 H3 NoX I3' (stat (fun p hp=>by rw [List.mem_singleton.mp hp]) fr3) t3 go) fun r s4 ⟨u,hr,h4⟩=>?_
      subst hr
      refine thn h4 fun _ s5 ⟨x,H5,I5,r5,y5,t5,fr5⟩=>?_
      have I5':=I5.pinned (stat (fun p hp=>by rw [List.mem_singleton.mp hp]) fr5) (T.obj _ _ t5)
      refine thn (hg Cc _ s5 σ3 H5 x u _ I5' r5 (next x H5 y5)) fun _ s6 ⟨σ6,H6,I6,q6⟩=>?_
      refine thn (ht Cc _ s6 σ6 H6 _ I6 q6) fun b s7 ⟨H7,I7,q7⟩=>?_
      have back : ∀ {σ8 : L2.St} {H8 : Hp} {s8 : Shared},Inv (cxComp X N scope Cc fp s H) ([(Dd,{ cls:=.type "list",data:=.seq its.toArray nn })]++pinsAt fp s5.heap) σ8 H8 s8 →
          tn (i + 1) s8.heap∧(∀ b ∈ fp,H8 b = none)∧s8.heap.get? Dd = some { cls:=.type "list",data:=.seq its.toArray nn }∧H8 Dd = none:=fun {σ8 H8 s8} I8=>by
        refine ⟨T.keep _ _ _ t5 fun b hb o e=>(I8.pin (b,o) (List.mem_append_right _ (List.mem_append_right _ (mem_pinsAt hb e)))).1,fun b hb=>?_,?_,?_⟩
        · obtain ⟨o,e,d⟩:=T.obj _ _ t5 b hb
          exact (I8.pin (b,o) (List.mem_append_right _ (List.mem_append_right _ (mem_pinsAt hb e)))).2.1
        · exact (I8.pin (Dd,_) (List.mem_append_right _ (List.mem_append_left _ (by simp)))).1
        · exact (I8.pin (Dd,{ cls:=.type "list",data:=.seq its.toArray nn }) (List.mem_append_right _ (List.mem_append_left _ (by simp)))).2.1
      cases b with
      | false =>
        simp only [Bool.false_eq_true,if_false] at q7 ⊢
        obtain ⟨k',hk,w7⟩:=q7
        obtain ⟨b1,b2,b3,b4⟩:=back I7
        exact ⟨k',hk,i + 1,acc,its,nn,σ6,H7,I7.pins_of fun p hp=>absurd hp (by simp),b1,b2,w7,rv,b3,b4⟩
      | true =>
        simp only [if_true] at q7 ⊢
        refine thn (he Cc _ s7 σ6 H7 _ I7 q7) fun y s8 ⟨v8,H8,I8,r8,k',hk,w8⟩=>?_
        obtain ⟨b1,b2,b3,b4⟩:=back I8
        have l1:=rv.length
        refine call_meets F.slot_list_append ⟨_,b3,rfl⟩ F.entry_list_append (F.args_list_append_2 _ _) (PySem.list_append Dd its.toArray nn y (by rw [List.size_toArray]; omega)) ⟨b3,?_⟩
        have q:=PySem.IsL.update b3 (fun a=>a.push y)
        have hpush : its.toArray.push y = (its++[y]).toArray:=by simp
        rw [hpush] at q
        have I9 : Inv (cxComp X N scope Cc fp s H) [] σ6 H8 s8:=I8.pins_of fun p hp=>absurd hp (by simp)
        have I10 : Inv (cxComp X N scope Cc fp s H) [] σ6 H8 { s8 with heap:=s8.heap.update Dd (Obj.mapSeq (·.push y)) } :=
          I9.turned (it:=Dd) (t':=s8.toks) (fun b o hb e=>(Heap.get?_update_other s8.heap _ (Ne.symm hb)).trans e) b4 hDC (.inr hDs) cellD fun p hp=>absurd (show p ∈ ([] : List (Addr × Obj)) from hp) (by simp)
        exact ⟨k',hk,i + 1,acc++[v8],its++[y],_,σ6,H8,I10,T.keep _ _ _ b1 fun b hb o e=>(Heap.get?_update_other s8.heap _ (Ne.symm (nfp b hb))).trans e,b2,w8,rv.append (.cons r8 .nil),q,b4⟩
  exact codeAny_compStart_list (loop _ rfl) (T.self _ 0 _ _ _ (T.keep _ _ _ st0 fun b _ o e=>old b o e) (loop _ rfl))
def tComp (src : List (Option Nat)) (wi : TI) (g : TG) (tt : TT) (te : TE) : TE:=fun σ H Q=>wi σ H fun J H1=>∃ W : Nat→Nat→List V→L2.St→Hp→Prop,(∃ k,W 0 k [] (innerS src σ) H1) ∧
  ∀ i k acc σ' H',W i k acc σ' H'→(J.stop i H'∧acc.length ≤ sizeLine∧∀ p,H' p = none→Q (.ref p) (upd H' p (.lst acc)))∨(J.go i H'∧acc.length < sizeLine∧∀ x H2,J.yld i H' x H2→g x σ' H2 fun σ2 H3=>tt σ2 H3 fun b H4 =>
    if b = true then te σ2 H4 fun v H5=>∃ k',k' < k∧W (i + 1) k' (acc++[v]) σ2 H5 else ∃ k',k' < k∧W (i + 1) k' acc σ2 H4)
theorem pe_comp {X : Cx} {elt tg iter : Expr} {ifs : List Expr} {scope : Scope} {pos : Pos} {N : List Str} {src : List (Option Nat)} {wi : TI} {g : TG} {tt : TT} {te : TE} (hc : X.calm = true) (S : CompScope X N src scope) (hi : PI X tg iter wi)
    (hg : ∀ C fp s H,PG (cxComp X N scope C fp s H) tg g) (ht : ∀ C fp s H,TestR (cxComp X N scope C fp s H) ifs tt) (he : ∀ C fp s H,PE (cxComp X N scope C fp s H) elt te)
    (hs : ∀ x,foldedSetIterable iter X.env x = pure x:=by intro _; rfl) : PE X (.ListComp elt [⟨tg,iter,ifs,0⟩] scope pos) (tComp src wi g tt te):=by
  intro pins s σ H Q I h
  rw [eval_ListComp]
  refine wpAny_comprehension_free (use:=none) rfl hs (comp_clos S I) S.kind S.loc (thn (hi pins s σ H _ I h) fun v s1 h1=>thn h1 fun itv s2 h2=>?_)
  obtain ⟨it,fp,tn,J,H2,e,I2,T,st2,f2,W,w0,turn⟩:=h2
  subst e
  refine comp_block hc I2 T st2 f2 S (fun C=>hg C fp s2 H2) (fun C=>ht C fp s2 H2) (fun C=>he C fp s2 H2) W w0 turn ?_
  intro D C s' H' acc fin nD I' fC hm
  obtain ⟨m',hn⟩:=hm
  refine ⟨m',hn,fun h' sb=>⟨.ref D,upd H' D (.lst acc),?_,rfl,fin D nD⟩⟩
  obtain ⟨c0,c1,c2,c3,c4,c5⟩:=fC
  exact I'.turned (t':=s'.toks) (fun b o hb e=>(sb.2 b hb).trans e) c0 c1 c3 c4 c5
end MS
end
section
set_option linter.all false
set_option Elab.async false
set_option maxRecDepth 100000
set_option maxHeartbeats 4000000
namespace MS
open PySem PySem.Spec PyProof.Rows L2
theorem Inv.turnedL {X : Cx} {pins : List (Addr × Obj)} {σ : L2.St} {H : Hp} {s : Shared} {h' : Heap} {t' : Nat} {ch : List Addr} (I : Inv X pins σ H s) (k : ∀ b o,b ∉ ch→s.heap.get? b = some o→h'.get? b = some o) (hf : ∀ b ∈ ch,FpOk X pins H b) : Inv X pins σ H { s with heap:=h',toks:=t' }:=by
  have nit : ∀ b u,H b = some u→b ∉ ch:=fun b u e z=>by rw [(hf b z).1] at e; cases e
  refine I.step (g':=s.gens) (d':=s.drawn) (ch:=ch) (fun b hb=>?_) (fun b o _ _ hc e _=>k b o hc e) (fun b o _ _ hc e _=>⟨o.slots,k b o hc e⟩) (fun _ _ _ _ n=>n) (fun b o hc e=>⟨o,k b o hc e⟩) (fun _ _ e=>e) (fun _ _ _ e=>e) (fun b ps e=>⟨#[],by rw [e]; simp⟩) (fun m hm=>?_) (fun b u e=>?_) I.bare
  · obtain ⟨f0,f1,f2,f3,f4,f5⟩:=hf b hb
    exact ⟨f3,f1,f4,f5⟩
  · obtain ⟨o,es,ep,ho,r⟩:=hm
    exact ⟨o,es,ep,k _ o (fun z=>(hf _ z).2.1 rfl) ho,r⟩
  · refine (I.hok b u e).stay (fun c v hc q=>k c v ?_ q) (fun _ q=>q) fun _ _ q=>q
    rcases hc with z | z
    · rw [z]; exact nit b u e
    · exact nit c _ z
inductive RK where
  | lst | tup
def RK.It : RK→Heap→Addr→Addr→Nat→Prop
  | .lst,h,it,a,i=>h.IsListIter it a i
  | .tup,h,it,a,i=>h.IsTupleIter it a i
def RK.Sq : RK→Heap→Addr→Array Value→Prop
  | .lst,h,a,xs=>h.IsList a xs
  | .tup,h,a,xs=>h.IsTuple a xs
theorem RK.It.on {k : RK} {h h' : Heap} {it a : Addr} {i : Nat} (x : k.It h it a i) (e : ∀ o,h.get? it = some o→h'.get? it = some o) : k.It h' it a i:=by
  cases k with
  | lst=>exact Heap.IsListIter.at x e
  | tup=>obtain ⟨o,ho,r⟩:=x; exact ⟨o,e o ho,r⟩
theorem RK.Sq.on {k : RK} {h h' : Heap} {a : Addr} {xs : Array Value} (x : k.Sq h a xs) (e : ∀ o,h.get? a = some o→h'.get? a = some o) : k.Sq h' a xs:=by
  cases k with
  | lst=>exact Heap.IsList.at x e
  | tup=>obtain ⟨o,ho,r⟩:=x; exact ⟨o,e o ho,r⟩
theorem RK.It.obj {k : RK} {h : Heap} {it a : Addr} {i : Nat} (x : k.It h it a i) : ∃ o,h.get? it = some o∧∀ v,o.data ≠ .cell v:=by
  cases k with
  | lst=>obtain ⟨o,ho,_,d⟩:=x; exact ⟨o,ho,fun v z=>by rw [d] at z; cases z⟩
  | tup=>obtain ⟨o,ho,_,d⟩:=x; exact ⟨o,ho,fun v z=>by rw [d] at z; cases z⟩
section
variable {prog : Program} {w : World} {A : Around} {E : Value→Shared→Prop} {s : Shared}
theorem draw_some {k : RK} {it a : Addr} {i : Nat} {xs : Array Value} {x : Value} {Q : Value→Shared→Prop} (hi : k.It s.heap it a i) (hs : k.Sq s.heap a xs) (hx : xs[i]? = some x)
    (hQ : ∀ h',k.It h' it a (i + 1)→(∀ b o,b ≠ it→s.heap.get? b = some o→h'.get? b = some o)→h'.objs.size = s.heap.objs.size→Q x { s with heap:=h' }) : wpAny (model prog w) A (Builtin.SmallTypes.nextOf (.ref it)) Q E s:=by
  cases k with
  | lst=>exact wpAny_nextOf_list_item hi hs hx fun h' a1 a2=>hQ h' a1 a2.extBut a2.1
  | tup =>
    obtain ⟨o,e1,e2,e3⟩:=id hi
    obtain ⟨q,f1,_,m,f2⟩:=hs
    unfold Builtin.SmallTypes.nextOf
    refine wpAny_bind (wpAny_callSpecial?_slot (name:=Str.ofString "__next__") (Heap.IsTupleIter.typeIs hi) F.slot_tuple_iterator_next (wpAny_call_entry F.slot_tuple_iterator_next (Heap.IsTupleIter.typeIs hi) F.entry_tuple_iterator_next ?_ (F.args_tuple_iterator_next_1 _)))
    show wpAny _ _ (field (.ref it) 0 >>= _) _ _ _
    refine wpAny_bind (wpAny_field e1 e3 (x:=.ref a) rfl ?_)
    show wpAny _ _ (if (Value.ref a == Value.none) = true then _ else _) _ _ _
    rw [if_neg (show ¬ ((Value.ref a == Value.none) = true) from fun z=>nomatch z)]
    show wpAny _ _ (field (.ref it) 1 >>= _) _ _ _
    refine wpAny_bind (wpAny_field e1 e3 (x:=.int i 0) rfl ?_)
    show wpAny _ _ (seqItems? (.ref a) >>= _) _ _ _
    refine wpAny_bind (wpAny_seqItems f1 f2 ?_)
    simp only [Int.toNat_natCast,hx]
    refine wpAny_bind (wpAny_setField e1 e3 (by simp) (wpAny_pure ⟨x,rfl,wpAny_pure (hQ _ ?_ (Heap.SameBut.update ..).extBut (Heap.SameBut.update ..).1)⟩))
    exact ⟨_,Heap.get?_update_self _ e1 (Obj.isFreed_of_fields (Obj.data_mapFields e3 _)),(Obj.cls_mapFields ..).trans e2,by rw [Obj.data_mapFields e3]; simp [rawInt]⟩
theorem draw_none {k : RK} {it a : Addr} {i : Nat} {xs : Array Value} {Q : Value→Shared→Prop} (hh : A.handled = none) (hi : k.It s.heap it a i) (hs : k.Sq s.heap a xs) (hx : xs[i]? = none)
    (hE : ∀ h' e,(∀ b o,b ≠ it→s.heap.get? b = some o→h'.get? b = some o)→(∃ o,h'.get? e = some o∧o.cls = .type "StopIteration")→E (.ref e) { s with heap:=h' }) : wpAny (model prog w) A (Builtin.SmallTypes.nextOf (.ref it)) Q E s:=by
  cases k with
  | lst=>exact wpAny_nextOf_list_end hh hi hs hx fun h' e a1 a2=>hE h' e a1 a2
  | tup =>
    obtain ⟨o,e1,e2,e3⟩:=id hi
    obtain ⟨q,f1,_,m,f2⟩:=hs
    unfold Builtin.SmallTypes.nextOf
    refine wpAny_bind (wpAny_callSpecial?_slot (name:=Str.ofString "__next__") (Heap.IsTupleIter.typeIs hi) F.slot_tuple_iterator_next (wpAny_call_entry F.slot_tuple_iterator_next (Heap.IsTupleIter.typeIs hi) F.entry_tuple_iterator_next ?_ (F.args_tuple_iterator_next_1 _)))
    show wpAny _ _ (field (.ref it) 0 >>= _) _ _ _
    refine wpAny_bind (wpAny_field e1 e3 (x:=.ref a) rfl ?_)
    show wpAny _ _ (if (Value.ref a == Value.none) = true then _ else _) _ _ _
    rw [if_neg (show ¬ ((Value.ref a == Value.none) = true) from fun z=>nomatch z)]
    show wpAny _ _ (field (.ref it) 1 >>= _) _ _ _
    refine wpAny_bind (wpAny_field e1 e3 (x:=.int i 0) rfl ?_)
    show wpAny _ _ (seqItems? (.ref a) >>= _) _ _ _
    refine wpAny_bind (wpAny_seqItems f1 f2 ?_)
    simp only [Int.toNat_natCast,hx]
    refine wpAny_bind (wpAny_rule (wpAny_bind (wpAny_setField e1 e3 (by simp) ?_))); show wpAny _ _ (newExc (.type "StopIteration") [] >>= _) _ _ _
    refine wpAny_bind ?_; simp only [newExc,newTuple]
    refine wpAny_bind (wpAny_newObj_type ?_ (by size_fits)); refine wpAny_bind (m:=firstArgMember _ _) (wpAny_of_eq (a:=Value.none) (by first | rfl | (simp only [firstArgMember]; rfl)) ?_)
    refine wpAny_newObj_type ?_ (by size_fits); simp only [raiseNew]
    refine wpAny_bind (wpAny_handled ?_)
    first | rw [show A.in1.handled = none from hh] | (rw [hh])
    refine wpAny_bind (wpAny_pure (wpAny_throw ?_))
    exact hE _ _ (((Heap.SameBut.update ..).extBut.push _).push _) ⟨_,Heap.get?_push_size _ rfl,by rfl⟩
end
section
variable {prog : Program} {w : World} {A : Around} {E : Value→Shared→Prop} {s : Shared}
theorem pair_put {T : Addr} {a b x : Value} {j : Nat} {Q : Unit→Shared→Prop} (hT : IsPair s.heap T a b)
    (h : ∀ h',h'.get? T = some { cls:=.type "tuple",data:=.seq ((#[a,b] : Array Value).setIfInBounds j x) }→(∀ c o,c ≠ T→s.heap.get? c = some o→h'.get? c = some o)→h'.objs.size = s.heap.objs.size→Q () { s with heap:=h' }) :
    wpAny (model prog w) A (updateSeq T (·.setIfInBounds j x)) Q E s :=
  wpAny_updateSeq_pair hT fun h' a1 a2=>h h' a1 a2.extBut a2.1
theorem zip_get {n l1 l2 : Nat} {k1 k2 : RK} {i : Nat} {xs ys : Array Value} {x y a b : Value} {Q : Option Value→Shared→Prop} (n1 : l1 < n) (n2 : l2 < n)
    (hz : IsZip s.heap (n + 4) (n + 2) (n + 3) .none) (hI : IsPair s.heap (n + 2) (.ref n) (.ref (n + 1))) (hO : IsPair s.heap (n + 3) a b) (h1 : k1.It s.heap n l1 i) (h2 : k2.It s.heap (n + 1) l2 i) (s1 : k1.Sq s.heap l1 xs) (s2 : k2.Sq s.heap l2 ys) (hx : xs[i]? = some x) (hy : ys[i]? = some y)
    (hQ : ∀ h',IsZip h' (n + 4) (n + 2) (n + 3) (rawInt s.heap.objs.size)→IsPair h' (n + 2) (.ref n) (.ref (n + 1))→IsPair h' (n + 3) x y→k1.It h' n l1 (i + 1)→k2.It h' (n + 1) l2 (i + 1)→IsPair h' s.heap.objs.size x y →
      (∀ c o,c ≠ n + 4→c ≠ n + 3→c ≠ n→c ≠ n + 1→s.heap.get? c = some o→h'.get? c = some o)→Q (some (.ref s.heap.objs.size)) { s with heap:=h' }) :
    wpAny (model prog w) A (pyNext (.ref (n + 4))) Q E s:=by
  have hT : s.TypeIs (.ref (n + 4)) "zip":=⟨_,hz,rfl⟩
  unfold pyNext
  refine wpAny_bind (wpAny_attempt (wpAny_callSpecial?_slot (name:=Str.ofString "__next__") hT F.slot_zip_next (wpAny_call_entry F.slot_zip_next hT F.entry_zip_next ?_ (F.args_zip_next_1 _))))
  show wpAny _ _ (field (.ref (n + 4)) 2 >>= _) _ _ _
  refine wpAny_bind (wpAny_field hz rfl (x:=.bool false) rfl ?_)
  show wpAny _ _ (field (.ref (n + 4)) 3 >>= _) _ _ _
  refine wpAny_bind (wpAny_field hz rfl (x:=.ref (n + 2)) rfl ?_)
  refine wpAny_bind (wpAny_seqItems hI rfl ?_)
  show wpAny _ _ (Builtin.SmallTypes.ownedTupleIsFree (.ref (n + 4)) >>= _) _ _ _
  refine wpAny_bind ?_
  unfold Builtin.SmallTypes.ownedTupleIsFree
  refine wpAny_bind (wpAny_field hz rfl (x:=.none) rfl (wpAny_pure ?_))
  simp only [if_true]
  refine wpAny_bind (wpAny_rule ?_)
  refine wpAny_bind (wpAny_field hz rfl (x:=.ref (n + 3)) rfl ?_)
  refine wpAny_bind (wpAny_setField_rec hz (by simp) fun g1 z1 u1=>?_)
  replace z1 : IsZip g1 (n + 4) (n + 2) (n + 3) .ellipsis:=z1
  have v1:=u1.extBut
  refine wpAny_bind ?_
  simp only [List.zipIdx_cons,List.zipIdx_nil,List.forIn_cons,List.forIn_nil]
  refine wpAny_bind (wpAny_bind (wpAny_onRaise ?_)); show wpAny _ _ (Builtin.SmallTypes.nextOf (.ref n) >>= _) _ _ _
  refine wpAny_bind (draw_some (s:={ s with heap:=g1 }) (h1.on fun o e=>v1 _ o (by show @Ne Nat _ _; omega) e) (s1.on fun o e=>v1 _ o (by show @Ne Nat _ _; omega) e) hx fun g2 i2 v2 c2=>wpAny_pure ?_)
  have O2 : IsPair g2 (n + 3) a b:=v2 _ _ (by show @Ne Nat _ _; omega) (v1 _ _ (by show @Ne Nat _ _; omega) hO)
  refine wpAny_bind (wpAny_seqItems O2 rfl ?_)
  refine wpAny_bind (pair_put O2 fun g3 O3 v3 c3=>?_)
  replace O3 : IsPair g3 (n + 3) x b:=O3
  refine wpAny_bind (wpAny_letGo (wpAny_pure ?_))
  refine wpAny_bind (wpAny_bind (wpAny_onRaise ?_)); show wpAny _ _ (Builtin.SmallTypes.nextOf (.ref (n + 1)) >>= _) _ _ _
  refine wpAny_bind (draw_some (s:={ s with heap:=g3 }) (h2.on fun o e=>v3 _ o (by show @Ne Nat _ _; omega) (v2 _ o (by show @Ne Nat _ _; omega) (v1 _ o (by show @Ne Nat _ _; omega) e))) (s2.on fun o e=>v3 _ o (by show @Ne Nat _ _; omega) (v2 _ o (by show @Ne Nat _ _; omega) (v1 _ o (by show @Ne Nat _ _; omega) e))) hy fun g4 i4 v4 c4=>wpAny_pure ?_)
  have O4 : IsPair g4 (n + 3) x b:=v4 _ _ (by show @Ne Nat _ _; omega) O3
  refine wpAny_bind (wpAny_seqItems O4 rfl ?_)
  refine wpAny_bind (pair_put O4 fun g5 O5 v5 c5=>?_)
  replace O5 : IsPair g5 (n + 3) x y:=O5
  refine wpAny_bind (wpAny_letGo (wpAny_pure (wpAny_pure ?_)))
  refine wpAny_bind (wpAny_seqItems O5 rfl ?_)
  refine wpAny_bind (wpAny_newTuple ?_)
  have sz : g5.objs.size = s.heap.objs.size:=c5.trans (c4.trans (c3.trans (c2.trans u1.1)))
  have z5 : IsZip g5 (n + 4) (n + 2) (n + 3) .ellipsis:=v5 _ _ (by show @Ne Nat _ _; omega) (v4 _ _ (by show @Ne Nat _ _; omega) (v3 _ _ (by show @Ne Nat _ _; omega) (v2 _ _ (by show @Ne Nat _ _; omega) z1)))
  have up5 : ∀ c o,c ≠ n + 4→c ≠ n + 3→c ≠ n→c ≠ n + 1→s.heap.get? c = some o→g5.get? c = some o:=fun c o c1 c2 c3 c4 e=>v5 _ _ c2 (v4 _ _ c4 (v3 _ _ c2 (v2 _ _ c3 (v1 _ _ c1 e))))
  have j1 : k1.It g5 n l1 (i + 1):=i2.on fun o e=>v5 _ o (by show @Ne Nat _ _; omega) (v4 _ o (by show @Ne Nat _ _; omega) (v3 _ o (by show @Ne Nat _ _; omega) e))
  have j2 : k2.It g5 (n + 1) l2 (i + 1):=i4.on fun o e=>v5 _ o (by show @Ne Nat _ _; omega) e
  have lz : n + 4 < g5.objs.size:=Heap.lt_size z5
  show wpAny _ _ (Builtin.SmallTypes.ownedTupleHandOut (.ref (n + 4)) (.ref g5.objs.size) >>= _) _ _ _
  refine wpAny_bind ?_
  unfold Builtin.SmallTypes.ownedTupleHandOut
  have z6 : IsZip (g5.push { cls:=.type "tuple",data:=.seq #[x,y] }) (n + 4) (n + 2) (n + 3) .ellipsis:=Heap.get?_push_of_some _ z5
  refine wpAny_bind (wpAny_setField_rec z6 (by simp) fun g7 z7 u7=>?_)
  replace z7 : IsZip g7 (n + 4) (n + 2) (n + 3) (rawInt g5.objs.size):=z7
  refine wpAny_setField_rec z7 (by simp) fun g8 z8 u8=>?_
  replace z8 : IsZip g8 (n + 4) (n + 2) (n + 3) (rawInt g5.objs.size):=z8
  have up : ∀ c o,c ≠ n + 4→g5.get? c = some o→g8.get? c = some o:=fun c o c1 e=>u8.extBut _ _ c1 (u7.extBut _ _ c1 (Heap.get?_push_of_some _ e))
  have t8 : IsPair g8 g5.objs.size x y:=u8.extBut _ _ (Nat.ne_of_gt lz) (u7.extBut _ _ (Nat.ne_of_gt lz) (Heap.get?_push_size _ rfl))
  rw [sz] at z8 t8
  refine wpAny_pure ⟨_,rfl,wpAny_pure ?_⟩
  show Q (some (.ref g5.objs.size)) _
  rw [sz]
  exact hQ g8 z8 (up _ _ (by show @Ne Nat _ _; omega) (up5 _ _ (by show @Ne Nat _ _; omega) (by show @Ne Nat _ _; omega) (by show @Ne Nat _ _; omega) (by show @Ne Nat _ _; omega) hI)) (up _ _ (by show @Ne Nat _ _; omega) O5) (j1.on fun o e=>up _ o (by show @Ne Nat _ _; omega) e) (j2.on fun o e=>up _ o (by show @Ne Nat _ _; omega) e) t8 fun c o c1 c2 c3 c4 e=>up c o c1 (up5 c o c1 c2 c3 c4 e)
theorem zip_over {n l1 l2 : Nat} {k1 k2 : RK} {i : Nat} {xs ys : Array Value} {a b : Value} {Q : Option Value→Shared→Prop} (hh : A.handled = none) (n1 : l1 < n) (n2 : l2 < n)
    (hz : IsZip s.heap (n + 4) (n + 2) (n + 3) .none) (hI : IsPair s.heap (n + 2) (.ref n) (.ref (n + 1))) (hO : IsPair s.heap (n + 3) a b) (h1 : k1.It s.heap n l1 i) (h2 : k2.It s.heap (n + 1) l2 i) (s1 : k1.Sq s.heap l1 xs) (s2 : k2.Sq s.heap l2 ys) (hend : xs[i]? = none∨ys[i]? = none)
    (hQ : ∀ h',(∀ c o,c ≠ n + 4→c ≠ n + 3→c ≠ n→c ≠ n + 1→s.heap.get? c = some o→h'.get? c = some o)→Q none { s with heap:=h' }) :
    wpAny (model prog w) A (pyNext (.ref (n + 4))) Q E s:=by
  have hT : s.TypeIs (.ref (n + 4)) "zip":=⟨_,hz,rfl⟩
  have fin : ∀ (h' : Heap) (e : Addr),(∀ c o,c ≠ n + 4→c ≠ n + 3→c ≠ n→c ≠ n + 1→s.heap.get? c = some o→h'.get? c = some o)→(∃ o,h'.get? e = some o∧o.cls = .type "StopIteration") →
      wpAny (model prog w) A (do if (← isInstance (.ref e) (.type "StopIteration")) then pure none else (throw (Value.ref e) : Sem (Option Value))) Q E { s with heap:=h' }:=fun h' e hk he=>by
    obtain ⟨o,ho,hc⟩:=he
    refine wpAny_bind (wpAny_isInstance (T:="StopIteration") (b:=true) ⟨o,ho,hc⟩ isSubtype_stop ?_)
    exact wpAny_pure (hQ _ hk)
  unfold pyNext
  refine wpAny_bind (wpAny_attempt (wpAny_callSpecial?_slot (name:=Str.ofString "__next__") hT F.slot_zip_next (wpAny_call_entry F.slot_zip_next hT F.entry_zip_next ?_ (F.args_zip_next_1 _))))
  show wpAny _ _ (field (.ref (n + 4)) 2 >>= _) _ _ _
  refine wpAny_bind (wpAny_field hz rfl (x:=.bool false) rfl ?_)
  show wpAny _ _ (field (.ref (n + 4)) 3 >>= _) _ _ _
  refine wpAny_bind (wpAny_field hz rfl (x:=.ref (n + 2)) rfl ?_)
  refine wpAny_bind (wpAny_seqItems hI rfl ?_)
  show wpAny _ _ (Builtin.SmallTypes.ownedTupleIsFree (.ref (n + 4)) >>= _) _ _ _
  refine wpAny_bind ?_
  unfold Builtin.SmallTypes.ownedTupleIsFree
  refine wpAny_bind (wpAny_field hz rfl (x:=.none) rfl (wpAny_pure ?_))
  simp only [if_true]
  refine wpAny_bind (wpAny_rule ?_)
  refine wpAny_bind (wpAny_field hz rfl (x:=.ref (n + 3)) rfl ?_)
  refine wpAny_bind (wpAny_setField_rec hz (by simp) fun g1 z1 u1=>?_)
  replace z1 : IsZip g1 (n + 4) (n + 2) (n + 3) .ellipsis:=z1
  have v1:=u1.extBut
  refine wpAny_bind ?_
  simp only [List.zipIdx_cons,List.zipIdx_nil,List.forIn_cons,List.forIn_nil]
  refine wpAny_bind (wpAny_bind (wpAny_onRaise ?_)); show wpAny _ _ (Builtin.SmallTypes.nextOf (.ref n) >>= _) _ _ _
  cases hx : xs[i]? with
  | none =>
    refine wpAny_bind (draw_none (s:={ s with heap:=g1 }) hh (h1.on fun o e=>v1 _ o (by show @Ne Nat _ _; omega) e) (s1.on fun o e=>v1 _ o (by show @Ne Nat _ _; omega) e) hx fun g2 e v2 he=>?_)
    obtain ⟨oe,ho,hc⟩:=he
    have z2 : IsZip g2 (n + 4) (n + 2) (n + 3) .ellipsis:=v2 _ _ (by show @Ne Nat _ _; omega) z1
    have ez : e ≠ n + 4:=fun q=>by subst q; rw [z2] at ho; cases ho; simp at hc
    exact wpAny_setField_rec z2 (by simp) fun g3 _ u3=>fin g3 e (fun c o c1 _ c3 _ q=>u3.extBut _ _ c1 (v2 _ _ c3 (v1 _ _ c1 q))) ⟨oe,u3.extBut _ _ ez ho,hc⟩
  | some x =>
    have hy : ys[i]? = none:=by
      rcases hend with h | h
      · rw [hx] at h; cases h
      · exact h
    refine wpAny_bind (draw_some (s:={ s with heap:=g1 }) (h1.on fun o e=>v1 _ o (by show @Ne Nat _ _; omega) e) (s1.on fun o e=>v1 _ o (by show @Ne Nat _ _; omega) e) hx fun g2 i2 v2 c2=>wpAny_pure ?_)
    have O2 : IsPair g2 (n + 3) a b:=v2 _ _ (by show @Ne Nat _ _; omega) (v1 _ _ (by show @Ne Nat _ _; omega) hO)
    refine wpAny_bind (wpAny_seqItems O2 rfl ?_)
    refine wpAny_bind (pair_put O2 fun g3 O3 v3 c3=>?_)
    refine wpAny_bind (wpAny_letGo (wpAny_pure ?_))
    refine wpAny_bind (wpAny_bind (wpAny_onRaise ?_)); show wpAny _ _ (Builtin.SmallTypes.nextOf (.ref (n + 1)) >>= _) _ _ _
    refine wpAny_bind (draw_none (s:={ s with heap:=g3 }) hh (h2.on fun o e=>v3 _ o (by show @Ne Nat _ _; omega) (v2 _ o (by show @Ne Nat _ _; omega) (v1 _ o (by show @Ne Nat _ _; omega) e))) (s2.on fun o e=>v3 _ o (by show @Ne Nat _ _; omega) (v2 _ o (by show @Ne Nat _ _; omega) (v1 _ o (by show @Ne Nat _ _; omega) e))) hy fun g4 e v4 he=>?_)
    obtain ⟨oe,ho,hc⟩:=he
    have z4 : IsZip g4 (n + 4) (n + 2) (n + 3) .ellipsis:=v4 _ _ (by show @Ne Nat _ _; omega) (v3 _ _ (by show @Ne Nat _ _; omega) (v2 _ _ (by show @Ne Nat _ _; omega) z1))
    have ez : e ≠ n + 4:=fun q=>by subst q; rw [z4] at ho; cases ho; simp at hc
    exact wpAny_setField_rec z4 (by simp) fun g5 _ u5=>fin g5 e (fun c o c1 c2 c3 c4 q=>u5.extBut _ _ c1 (v4 _ _ c4 (v3 _ _ c2 (v2 _ _ c3 (v1 _ _ c1 q))))) ⟨oe,u5.extBut _ _ ez ho,hc⟩
end
def RK.itO (k : RK) (a : Addr) : Obj:=match k with
  | .lst=>{ cls:=.type "list_iterator",data:=.fields #[.ref a,.int 0 0] }
  | .tup=>{ cls:=.type "tuple_iterator",data:=.fields #[.ref a,.int 0 0] }
theorem row_iter {prog : Program} {w : World} {A : Around} {E : Value→Shared→Prop} {s : Shared} {k : RK} {a : Addr} {xs : Array Value} {Q : Value→Shared→Prop} (hs : k.Sq s.heap a xs) (hQ : Q (.ref s.heap.objs.size) { s with heap:=s.heap.push (k.itO a) }) : wpAny (model prog w) A (pyIter (.ref a)) Q E s:=by
  cases k with
  | lst=>exact wpAny_pyIter_list hs hQ
  | tup=>exact wpAny_pyIter_tuple hs hQ
theorem row_new {h : Heap} {k : RK} {a : Addr} : k.It (h.push (k.itO a)) h.objs.size a 0:=by
  cases k with
  | lst=>exact ⟨_,Heap.get?_push_size _ rfl,rfl,rfl⟩
  | tup=>exact ⟨_,Heap.get?_push_size _ rfl,rfl,rfl⟩
abbrev zh1 (k1 : RK) (h : Heap) (l1 : Addr) : Heap:=h.push (k1.itO l1)
abbrev zh2 (k1 k2 : RK) (h : Heap) (l1 l2 : Addr) : Heap:=(zh1 k1 h l1).push (k2.itO l2)
abbrev zh3 (k1 k2 : RK) (h : Heap) (l1 l2 : Addr) : Heap:=(zh2 k1 k2 h l1 l2).push { cls:=.type "tuple",data:=.seq #[.ref h.objs.size,.ref (zh1 k1 h l1).objs.size] }
abbrev zh4 (k1 k2 : RK) (h : Heap) (l1 l2 : Addr) : Heap:=(zh3 k1 k2 h l1 l2).push { cls:=.type "tuple",data:=.seq #[.none,.none] }
abbrev zh5 (k1 k2 : RK) (h : Heap) (l1 l2 : Addr) : Heap:=(zh4 k1 k2 h l1 l2).push { cls:=.type "zip",data:=.fields #[.none,.bool false,.bool false,.ref (zh2 k1 k2 h l1 l2).objs.size,.ref (zh3 k1 k2 h l1 l2).objs.size] }
theorem zip_made (k1 k2 : RK) (l1 l2 : Addr) (xs ys : Array Value) : Meets (Builtin.«zip.__new__» ⟨[.type "zip",.ref l1,.ref l2],[]⟩) (fun _ R s=>k1.Sq s.heap l1 xs∧k2.Sq s.heap l2 ys∧R (.ok (.ret (.ref (zh4 k1 k2 s.heap l1 l2).objs.size))) { s with heap:=zh5 k1 k2 s.heap l1 l2 }) :=
  .of_wp fun prog w A R s h=>by
    obtain ⟨hp,g,d,tk,os⟩:=s
    obtain ⟨q1,q2,h⟩:=h
    have hsub:=sub_zip
    have L1 : k1.Sq (Shared.heap ⟨hp,g,d,tk,os⟩) l1 xs:=q1
    have L2 : k2.Sq (Shared.heap ⟨hp.push (k1.itO l1),g,d,tk,os⟩) l2 ys:=q2.on fun o e=>Heap.get?_push_of_some _ e
    wp_walk using row_iter L1,row_iter L2
    exact ⟨_,rfl,h⟩
def ZipAt (k1 k2 : RK) (n l1 l2 : Nat) (i : Nat) (h : Heap) : Prop :=
  l1 < n∧l2 < n∧IsZip h (n + 4) (n + 2) (n + 3) .none∧IsPair h (n + 2) (.ref n) (.ref (n + 1))∧(∃ a b,IsPair h (n + 3) a b)∧k1.It h n l1 i∧k2.It h (n + 1) l2 i
theorem call_zipK {prog : Program} {w : World} {A : Around} {E : Value→Shared→Prop} {s : Shared} {k1 k2 : RK} {l1 l2 : Nat} {xs ys : Array Value} {Q : Value→Shared→Prop} (q1 : k1.Sq s.heap l1 xs) (q2 : k2.Sq s.heap l2 ys) (b1 : l1 < s.heap.objs.size) (b2 : l2 < s.heap.objs.size)
    (h : ∀ h',ZipAt k1 k2 s.heap.objs.size l1 l2 0 h'→(∀ c o,s.heap.get? c = some o→h'.get? c = some o)→Q (.ref (s.heap.objs.size + 4)) { s with heap:=h' }) : wpAny (model prog w) A (call (.type "zip") [.ref l1,.ref l2]) Q E s:=by
  refine callType_new F.called_zip (by decide) (F.typeCall_zip_2 _ _) (F.newCall_zip_2 _ _) (fun obj=>F.args_object_init_3 obj _ _) F.entry_zip_new (zip_made k1 k2 l1 l2 xs ys) ⟨q1,q2,?_⟩
  have z1 : (zh1 k1 s.heap l1).objs.size = s.heap.objs.size + 1:=Heap.size_push ..
  have z2 : (zh2 k1 k2 s.heap l1 l2).objs.size = s.heap.objs.size + 2:=by rw [Heap.size_push,z1]
  have z3 : (zh3 k1 k2 s.heap l1 l2).objs.size = s.heap.objs.size + 3:=by rw [Heap.size_push,z2]
  have z4 : (zh4 k1 k2 s.heap l1 l2).objs.size = s.heap.objs.size + 4:=by rw [Heap.size_push,z3]
  have g5 : (zh5 k1 k2 s.heap l1 l2).get? (zh4 k1 k2 s.heap l1 l2).objs.size = some _:=Heap.get?_push_size _ rfl
  have g4 : (zh5 k1 k2 s.heap l1 l2).get? (zh3 k1 k2 s.heap l1 l2).objs.size = some _:=Heap.get?_push_of_some _ (Heap.get?_push_size _ rfl)
  have g3 : (zh5 k1 k2 s.heap l1 l2).get? (zh2 k1 k2 s.heap l1 l2).objs.size = some _:=Heap.get?_push_of_some _ (Heap.get?_push_of_some _ (Heap.get?_push_size _ rfl))
  have g2 : k2.It (zh5 k1 k2 s.heap l1 l2) (zh1 k1 s.heap l1).objs.size l2 0:=row_new.on fun o e=>Heap.get?_push_of_some _ (Heap.get?_push_of_some _ (Heap.get?_push_of_some _ e))
  have g1 : k1.It (zh5 k1 k2 s.heap l1 l2) s.heap.objs.size l1 0:=row_new.on fun o e=>Heap.get?_push_of_some _ (Heap.get?_push_of_some _ (Heap.get?_push_of_some _ (Heap.get?_push_of_some _ e)))
  show _∧_
  rw [z2,z3,z4] at g5
  rw [z1,z2] at g3
  rw [z3] at g4
  rw [z1] at g2
  rw [z4]
  exact ⟨⟨_,g5,rfl⟩,h _ ⟨b1,b2,g5,g3,⟨_,_,g4⟩,g1,g2⟩ fun c o x=>Heap.get?_push_of_some _ (Heap.get?_push_of_some _ (Heap.get?_push_of_some _ (Heap.get?_push_of_some _ (Heap.get?_push_of_some _ x))))⟩
def RK.sq (k : RK) (K : PySem.W.Frag) (H : Hp) (a : Addr) (xs : List V) : Prop:=match k with
  | .lst=>SqL K H a xs
  | .tup=>SqT K H a xs
def Itz (K : PySem.W.Frag) (k1 k2 : RK) (a b : Addr) : It :=
  ⟨fun i H=>∃ xs ys x y,k1.sq K H a xs∧k2.sq K H b ys∧xs[i]? = some x∧ys[i]? = some y,
   fun i H v H'=>∃ p x y,v = .ref p∧H p = none∧H' = upd H p (.tup [x,y])∧(∀ xs,k1.sq K H a xs→xs[i]? = some x)∧∀ ys,k2.sq K H b ys→ys[i]? = some y,
   fun i H=>∃ xs ys,k1.sq K H a xs∧k2.sq K H b ys∧(xs.length ≤ i∨ys.length ≤ i)⟩
section
variable {X : Cx} {pins : List (Addr × Obj)} {σ : L2.St} {H : Hp} {s : Shared}
theorem row_of {k : RK} {a : Addr} {xs : List V} (I : Inv X pins σ H s) (q : k.sq X.K H a xs) : ∃ its,Vals xs its∧k.Sq s.heap a its.toArray:=by
  cases k with
  | lst=>obtain ⟨its,rv,p,hz⟩:=I.list q; exact ⟨its,rv,p.isList⟩
  | tup=>obtain ⟨its,rv,p,hz⟩:=I.tuple q; exact ⟨its,rv,show s.heap.IsTuple a its.toArray from p⟩
theorem row_inj {k : RK} {a : Addr} {xs ys : List V} (I : Inv X pins σ H s) (q : k.sq X.K H a xs) (q' : k.sq X.K H a ys) : xs = ys:=by
  cases k with
  | lst=>exact I.list_inj q q'
  | tup=>exact I.tuple_inj q q'
end
def fpZ (n : Nat) : List Addr:=[n + 4,n + 2,n + 3,n,n + 1]
theorem turn_zip {P : Program} {w : World} {K : PySem.W.Frag} {elts : List Expr} {c : Nat} {pos : Pos} (k1 k2 : RK) (n a b : Nat) : Turn P w K (.Tuple elts c pos) (Itz K k1 k2 a b) (fpZ n) (n + 4) (ZipAt k1 k2 n a b) where
  mem:=by simp [fpZ]
  obj:=fun i h st e he=>by
    obtain ⟨b1,b2,hz,hI,⟨x,y,hO⟩,h1,h2⟩:=st
    simp only [fpZ,List.mem_cons,List.not_mem_nil,or_false] at he
    rcases he with rfl | rfl | rfl | rfl | rfl
    · exact ⟨_,hz,fun v z=>nomatch z⟩
    · exact ⟨_,hI,fun v z=>nomatch z⟩
    · exact ⟨_,hO,fun v z=>nomatch z⟩
    · exact h1.obj
    · exact h2.obj
  keep:=fun i h h' st k=>by
    obtain ⟨b1,b2,hz,hI,⟨x,y,hO⟩,h1,h2⟩:=st
    exact ⟨b1,b2,k _ (by simp [fpZ]) _ hz,k _ (by simp [fpZ]) _ hI,⟨x,y,k _ (by simp [fpZ]) _ hO⟩,h1.on fun o e=>k _ (by simp [fpZ]) o e,h2.on fun o e=>k _ (by simp [fpZ]) o e⟩
  item:=by
    intro X hP hw hK hc i pins s σ H E I hf st hg
    subst hP hw hK
    obtain ⟨xs,ys,x,y,qx,qy,ex,ey⟩:=hg
    obtain ⟨b1,b2,hz,hI,⟨ua,ub,hO⟩,h1,h2⟩:=st
    obtain ⟨vx,rx,sx⟩:=row_of I qx
    obtain ⟨vy,ry,sy⟩:=row_of I qy
    obtain ⟨u1,hu1,ru1⟩:=rx.get ex
    obtain ⟨u2,hu2,ru2⟩:=ry.get ey
    refine zip_get b1 b2 hz hI hO h1 h2 sx sy (x:=u1) (y:=u2) (by simpa using hu1) (by simpa using hu2) fun h' a1 a2 a3 a4 a5 a6 kp=>⟨_,rfl,?_⟩
    refine wpAny_letOwnedTupleGo_zip (s:={ s with heap:=h' }) a1 fun h9 c1 c2=>?_
    have ex2:=c2.extBut
    have lt : ∀ b ∈ fpZ n,b ≠ s.heap.objs.size:=fun b hb z=>by
      have q : b < s.heap.objs.size:=by
        simp only [fpZ,List.mem_cons,List.not_mem_nil,or_false] at hb
        rcases hb with rfl | rfl | rfl | rfl | rfl
        · exact Heap.lt_size hz
        · exact Heap.lt_size hI
        · exact Heap.lt_size hO
        · obtain ⟨o,e,_⟩:=h1.obj; exact Heap.lt_size e
        · obtain ⟨o,e,_⟩:=h2.obj; exact Heap.lt_size e
      rw [z] at q
      exact Nat.lt_irrefl _ q
    have nz : s.heap.objs.size ≠ n + 4:=fun z=>lt (n + 4) (by simp [fpZ]) z.symm
    have I1 : Inv X pins σ H { s with heap:=h9,toks:=s.toks }:=Inv.turnedL (ch:=fpZ n) I (fun b o hb e=>ex2 _ _ (fun z=>hb (by simp [fpZ,z])) (kp b o (fun z=>hb (by simp [fpZ,z])) (fun z=>hb (by simp [fpZ,z])) (fun z=>hb (by simp [fpZ,z])) (fun z=>hb (by simp [fpZ,z])) e)) hf
    have fr : H s.heap.objs.size = none:=I.hok.fresh (Nat.le_refl _)
    have I2 : Inv X pins σ (upd H s.heap.objs.size (.tup [x,y])) { s with heap:=h9,toks:=s.toks }:=Inv.track I1 (I.fpOk (Nat.le_refl _) fr) ⟨by show 2 ≤ sizeLine; decide,[u1,u2],.cons ru1 (.cons ru2 .nil),⟨_,ex2 _ _ nz a6,rfl,_,rfl⟩⟩
    refine ⟨.ref s.heap.objs.size,upd H s.heap.objs.size (.tup [x,y]),I2,rfl,⟨_,x,y,rfl,fr,rfl,fun zs hz'=>?_,fun zs hz'=>?_⟩,⟨b1,b2,c1,ex2 _ _ (by show @Ne Nat _ _; omega) a2,⟨_,_,ex2 _ _ (by show @Ne Nat _ _; omega) a3⟩,a4.on fun o e=>ex2 _ o (by show @Ne Nat _ _; omega) e,a5.on fun o e=>ex2 _ o (by show @Ne Nat _ _; omega) e⟩,fun b hb=>?_⟩
    · rw [row_inj I hz' qx]; exact ex
    · rw [row_inj I hz' qy]; exact ey
    · rw [upd_ne (lt b hb)]; exact (hf b hb).1
  done:=by
    intro X hP hw hK hc i pins s σ H E I hf st hg
    subst hP hw hK
    obtain ⟨xs,ys,qx,qy,hend⟩:=hg
    obtain ⟨b1,b2,hz,hI,⟨ua,ub,hO⟩,h1,h2⟩:=st
    obtain ⟨vx,rx,sx⟩:=row_of I qx
    obtain ⟨vy,ry,sy⟩:=row_of I qy
    have lx:=rx.length
    have ly:=ry.length
    refine zip_over (I.ok.hd hc) b1 b2 hz hI hO h1 h2 sx sy ?_ fun h' kp=>⟨rfl,Inv.turnedL (ch:=fpZ n) I (fun b o hb e=>kp b o (fun z=>hb (by simp [fpZ,z])) (fun z=>hb (by simp [fpZ,z])) (fun z=>hb (by simp [fpZ,z])) (fun z=>hb (by simp [fpZ,z])) e) hf⟩
    rcases hend with h | h
    · exact .inl (by simp; omega)
    · exact .inr (by simp; omega)
  self:=fun _ _ _ _ _ st h=>wpAny_pyIter_zip st.2.2.1 h
def iZip (K : PySem.W.Frag) (ta : TA) : TI:=fun σ H R=>ta σ H fun vs H1=>∃ (k1 k2 : RK) (a b : Addr),vs = [.ref a,.ref b]∧(∃ xs,k1.sq K H1 a xs)∧(∃ ys,k2.sq K H1 b ys)∧R (Itz K k1 k2 a b) H1
theorem pi_zip {X : Cx} {a b : Expr} {ta : TA} {p pos : Pos} {elts : List Expr} {c : Nat} {tpos : Pos} (hg : Gl X "zip") (hm : X.mg "zip" = none) (ha : PA X [a,b] ta) (hs : starEach [a,b] X.env = [(false,eval a X.env),(false,eval b X.env)]:=by rfl) (hs2 : starEach [b] X.env = [(false,eval b X.env)]:=by rfl) :
    PI X (.Tuple elts c tpos) (.Call (.Name "zip" p) [a,b] [] pos) (iZip X.K ta):=by
  intro pins s σ H R I h
  refine Call_ (ld_blt I hg hm boot_zip (PyProof.Rows.callWith_type1 (thn (ha pos pins s σ H _ I h) fun us s1 ⟨vs,H1,I1,r1,q1⟩=>?_) (by rw [hs,hs2]) (by rw [hs2]; rfl)))
  obtain ⟨k1,k2,a,b,e,⟨xs,qx⟩,⟨ys,qy⟩,q⟩:=q1
  subst e
  cases r1 with
  | cons r rr =>
    cases rr with
    | cons r' rr =>
      cases rr
      cases r
      cases r'
      obtain ⟨vx,rx,sx⟩:=row_of I1 qx
      obtain ⟨vy,ry,sy⟩:=row_of I1 qy
      have la : a < s1.heap.objs.size:=by
        cases k1 <;> (obtain ⟨o,e,_⟩:=sx; exact Heap.lt_size e)
      have lb : b < s1.heap.objs.size:=by
        cases k2 <;> (obtain ⟨o,e,_⟩:=sy; exact Heap.lt_size e)
      refine call_zipK sx sy la lb fun h' st kp=>?_
      refine wpAny_pyIter_zip (s:={ s1 with heap:=h' }) st.2.2.1 ?_
      refine ⟨s1.heap.objs.size + 4,fpZ s1.heap.objs.size,_,_,H1,rfl,I1.kept (t':=s1.toks) kp,turn_zip k1 k2 _ a b,st,fun d hd=>?_,q⟩
      have ld : s1.heap.objs.size ≤ d:=by
        simp only [fpZ,List.mem_cons,List.not_mem_nil,or_false] at hd
        rcases hd with rfl | rfl | rfl | rfl | rfl <;> (show @LE.le Nat _ _ _; omega)
      exact I1.fpOk ld (I1.hok.fresh ld)
end MS
end
section
set_option linter.all false
set_option Elab.async false
set_option maxRecDepth 100000
set_option maxHeartbeats 4000000
namespace MS
open PySem PySem.Spec PyProof.Rows L2
section
variable {X : Cx}
theorem mt_findD : MtM X "str.find" (fun x xs H Q=>∃ m st a ds d st',Rel X.K m st H∧MS.IsD X.K m H a x∧IsDs X.K m H ds xs∧M.mFind st a ds = some (d,st')∧Post X.K m H d st' Q):=by
  intro pins s σ H x xs v us Q I rx rs h
  obtain ⟨m,st,a,ds,d,st',R0,i1,i2,e,q⟩:=h
  unfold M.mFind at e
  split at e
  · rename_i z y
    obtain ⟨c,e1,e2⟩:=mapD e
    cases e2
    have hy:=oneOf_eq e1
    subst hy
    have hx:=i1.str
    subst hx
    obtain ⟨y',rfl,iy⟩:=i2.one
    have hy':=iy.str
    subst hy'
    obtain ⟨t,rfl⟩:=rx
    cases rs with
    | cons r rr =>
      cases rr
      obtain ⟨u,rfl⟩:=r
      refine SC.find ⟨.int _,H,I.tok _,⟨_,rfl⟩,?_⟩
      rw [find_one]
      exact q.here R0 (mkInt _)
  · cases e
theorem strs_of {K : PySem.W.Frag} {m : List Addr} {H : Hp} : ∀ {ds : List M.D} {xs : List V} {us : List Value} {ts : List Str},M.asStrs ds = some ts→IsDs K m H ds xs→Vals xs us→∃ l : List (Str × Tok),us = strValues l∧l.map (·.1) = ts
  | [],xs,us,ts,e,ix,r=>by
    cases e
    rw [ix.nil] at r
    cases r
    exact ⟨[],rfl,rfl⟩
  | .str z::ds,xs,us,ts,e,ix,r=>by
    have e : (M.asStrs ds).map (z::·) = some ts:=e
    obtain ⟨ts',e1,e2⟩:=mapD e
    subst e2
    obtain ⟨x,xr,rfl,i1,i2⟩:=ix.cons
    have hx:=i1.str
    subst hx
    cases r with
    | cons r1 r2 =>
      obtain ⟨t,rfl⟩:=r1
      obtain ⟨l,rfl,rfl⟩:=strs_of e1 i2 r2
      exact ⟨(z,t)::l,rfl,rfl⟩
  | .non::ds,xs,us,ts,e,ix,r=>by cases e
  | .bl b::ds,xs,us,ts,e,ix,r=>by cases e
  | .int b::ds,xs,us,ts,e,ix,r=>by cases e
  | .tup b::ds,xs,us,ts,e,ix,r=>by cases e
  | .loc b::ds,xs,us,ts,e,ix,r=>by cases e
  | .lst b::ds,xs,us,ts,e,ix,r=>by cases e
theorem mt_joinD : MtM X "str.join" (fun x xs H Q=>∃ m st a ds d st',Rel X.K m st H∧MS.IsD X.K m H a x∧IsDs X.K m H ds xs∧M.mJoin st a ds = some (d,st')∧Post X.K m H d st' Q):=by
  intro pins s σ H x xs v us Q I rx rs h
  obtain ⟨m,st,a,ds,d,st',R0,i1,i2,e,q⟩:=h
  unfold M.mJoin at e
  split at e
  · rename_i z l
    obtain ⟨es,e1,e⟩:=bindO e
    obtain ⟨ts,e2,e⟩:=bindO e
    split at e
    · rename_i hl
      cases e
      have hx:=i1.str
      subst hx
      obtain ⟨y,rfl,iy⟩:=i2.one
      obtain ⟨p,ys,_,rfl,hq,ix⟩:=R0.seq e1 iy
      obtain ⟨t,rfl⟩:=rx
      cases rs with
      | cons r rr =>
        cases rr
        cases r
        obtain ⟨its,rv,pl,hz⟩:=I.list hq
        obtain ⟨w,rfl,rfl⟩:=strs_of e2 ix rv
        have hok : JoinOk z (w.map (·.1)) = true:=by
          unfold JoinOk
          rw [PySem.StrLaws.joinTotal,Bool.not_eq_true']
          unfold Builtin.Str.tooLong
          rw [decide_eq_false_iff_not]
          have l2:=lim_eq
          omega
        refine SC.join pl.isList rfl hok fun t' k=>⟨.str _,H,I.tok k,⟨t',rfl⟩,?_⟩
        have ej : Txt.join z (w.map (·.1)) = Str.join z (w.map (·.1)):=PySem.StrLaws.glued_eq_join _ _
        rw [ej]
        exact q.here R0 (mkStr _)
    · cases e
  · cases e
theorem call_intD : CallR X (.type "int") (rC X.K M.bInt):=by
  intro pins s σ H xs us Q I r h
  obtain ⟨m,st,ds,d,st',R0,ix,e,q⟩:=h
  unfold M.bInt at e
  split at e
  · rename_i z
    split at e
    · rename_i hz
      cases e
      obtain ⟨x,rfl,i⟩:=ix.one
      have hx:=i.str
      subst hx
      cases r with
      | cons r rr =>
        cases rr
        obtain ⟨t,rfl⟩:=r
        simp only [Bool.and_eq_true,decide_eq_true_eq] at hz
        obtain ⟨⟨h1,h2⟩,h3⟩:=hz
        have hd : NumText.AllDigits z.cps.toList:=fun c hc=>by
          have:=List.all_eq_true.mp h2 c hc
          unfold M.isFig at this
          simpa using this
        have hne : z.cps.toList ≠ []:=fun e=>by rw [e] at h1; cases h1
        exact PySem.W.KIN.call_text (PySem.intText_digits hd hne (by omega)) h3 ⟨.int _,H,I.tok _,⟨_,rfl⟩,q.here R0 (mkInt _)⟩
    · cases e
  · rename_i i
    cases e
    obtain ⟨x,rfl,j⟩:=ix.one
    exact call_int1 pins s σ H _ us Q I r (.inl ⟨i,by rw [j.int],q.here R0 (mkInt _)⟩)
  · cases e
theorem call_strD : CallR X (.type "str") (rC X.K M.bStr):=by
  intro pins s σ H xs us Q I r h
  obtain ⟨m,st,ds,d,st',R0,ix,e,q⟩:=h
  unfold M.bStr at e
  split at e
  · rename_i i
    split at e
    · rename_i hi
      cases e
      obtain ⟨x,rfl,j⟩:=ix.one
      exact call_str_int pins s σ H _ us Q I r ⟨i,by rw [j.int],hi,q.here R0 (mkStr _)⟩
    · cases e
  · rename_i z
    cases e
    obtain ⟨x,rfl,j⟩:=ix.one
    have hx:=j.str
    subst hx
    cases r with
    | cons r1 r2 =>
      cases r2
      obtain ⟨t,rfl⟩:=r1
      exact P.str_of_str ⟨.str z,H,I,⟨t,rfl⟩,q.here R0 (mkStr _)⟩
  · cases e
end
end MS
end
section
set_option linter.all false
set_option Elab.async false
set_option maxRecDepth 100000
set_option maxHeartbeats 4000000
namespace MS
open PySem PySem.Spec PyProof.Rows L2
inductive EntOk (prm : Params) : List DictEntry→List Str→List Value→Prop
  | nil : EntOk prm [] [] []
  | cons {k : Str} {t : Tok} {u : Value} {es : List DictEntry} {ks : List Str} {us : List Value} (h : EntOk prm es ks us) : EntOk prm (⟨PyData.keyHash prm k,.str k t,u⟩::es) (k::ks) (u::us)
structure FDict (prm : Params) (K : PySem.W.Frag) (a : Addr) (ks : List Str) (ds : List M.D) : Prop where
  ex : ∃ (us : List Value) (vs : List V) (es : Array DictEntry) (ep : Nat),K.lookup a = some { cls:=.type "dict",data:=.dict es ep }∧EntOk prm es.toList ks us∧Vals vs us∧∀ m H,IsDs K m H ds vs
  nd : ks.Nodup
  ne : (a == sysModules) = false
def kzip {α : Type} (ks : List Str) (us : List α) : List (Key × α):=(ks.map fun k=>(Sum.inr k : Key)).zip us
theorem ent_keys {P : Program} {w : World} : ∀ {es : List DictEntry} {ks : List Str} {us : List Value},EntOk w.params es ks us→(∀ e ∈ es,∃ k,(mixKind P w).is k e.key = true∧e.hash = (mixKind P w).hash k)∧PySem.Pairs (mixKind P w) es (kzip ks us)∧(kzip ks us).map (·.1) = ks.map fun k=>(Sum.inr k : Key)
  | _,_,_,.nil=>⟨(fun e h=>nomatch h),.nil,rfl⟩
  | _,_,_,.cons (k:=k) (t:=t) (u:=u) h=>by
    obtain ⟨h1,h2,h3⟩:=ent_keys (P:=P) h
    refine ⟨fun e he=>?_,?_,?_⟩
    · rcases List.mem_cons.mp he with q | q
      · subst q
        exact ⟨.inr k,mixKind_str P w k t,rfl⟩
      · exact h1 e q
    · exact .cons (mixKind_str P w k t) rfl h2
    · exact congrArg (List.cons (Sum.inr k : Key)) h3
theorem fd_dict {X : Cx} {pins : List (Addr × Obj)} {σ : L2.St} {H : Hp} {s : Shared} {a : Addr} {ks : List Str} {ds : List M.D} (I : Inv X pins σ H s) (h : FDict X.w.params X.K a ks ds) :
    ∃ (us : List Value) (vs : List V),s.heap.DictOf (mixKind X.prog X.w) a (kzip ks us)∧Vals vs us∧(∀ m H,IsDs X.K m H ds vs)∧ks.length = us.length:=by
  obtain ⟨us,vs,es,ep,e1,e2,e3,e4⟩:=h.ex
  obtain ⟨h1,h2,h3⟩:=ent_keys (P:=X.prog) (w:=X.w) e2
  refine ⟨us,vs,⟨_,es,ep,I.kIn a _ e1,⟨rfl,rfl,rfl⟩,rfl,fun e he=>h1 e (by simpa using he),h2,?_⟩,e3,e4,?_⟩
  · rw [h3]
    exact (List.pairwise_map.mpr (h.nd.imp fun hne hq=>hne (Sum.inr.inj hq)))
  · have : ∀ {es : List DictEntry} {ks : List Str} {us : List Value},EntOk X.w.params es ks us→ks.length = us.length:=by
      intro es ks us q
      induction q with
      | nil=>rfl
      | cons _ ih=>rw [List.length_cons,List.length_cons,ih]
    exact this e2
theorem kz_at {α : Type} (z : Str) : ∀ (ks : List Str) (us : List α),((kzip ks us).find? fun p=>decide (p.1 = Sum.inr z)).map (·.2) = ((ks.zip us).find? fun q=>q.1 == z).map (·.2)
  | [],us=>rfl
  | k::ks,[]=>rfl
  | k::ks,u::us=>by
    have ih:=kz_at z ks us
    show ((((Sum.inr k : Key),u)::kzip ks us).find? fun p=>decide (p.1 = Sum.inr z)).map (·.2) = (((k,u)::ks.zip us).find? fun q=>q.1 == z).map (·.2)
    rw [List.find?_cons,List.find?_cons]
    by_cases h : k = z
    · have h1 : decide ((Sum.inr k : Key) = Sum.inr z) = true:=by rw [h]; simp
      have h2 : (k == z) = true:=by rw [h]; simp
      simp only [h1,h2]
      rfl
    · have h1 : decide ((Sum.inr k : Key) = Sum.inr z) = false:=decide_eq_false fun q=>h (Sum.inr.inj q)
      have h2 : (k == z) = false:=by simpa using h
      simp only [h1,h2]
      exact ih
theorem gz_get {K : PySem.W.Frag} (z : Str) : ∀ {ks : List Str} {ds : List M.D} {vs : List V} {us : List Value},(∀ m H,IsDs K m H ds vs)→Vals vs us→ks.length = us.length →
    (((ks.zip ds).find? fun q=>q.1 == z) = none∧((ks.zip us).find? fun q=>q.1 == z) = none∧ks.contains z = false)∨∃ k d v u,((ks.zip ds).find? fun q=>q.1 == z) = some (k,d)∧((ks.zip us).find? fun q=>q.1 == z) = some (k,u)∧(∀ m H,MS.IsD K m H d v)∧RelV v u∧ks.contains z = true
  | [],ds,vs,us,i,r,h=>.inl ⟨rfl,rfl,rfl⟩
  | k::ks,[],vs,us,i,r,h=>by
    rw [(i [] fun _=>none).nil] at r
    cases r
    cases h
  | k::ks,d::ds,vs,us,i,r,h=>by
    obtain ⟨v,vr,e,_,_⟩:=(i [] fun _=>none).cons
    subst e
    have i1 : ∀ m H,MS.IsD K m H d v:=fun m H=>by
      obtain ⟨v',vr',e,q,_⟩:=(i m H).cons
      cases e
      exact q
    have i2 : ∀ m H,IsDs K m H ds vr:=fun m H=>by
      obtain ⟨v',vr',e,_,q⟩:=(i m H).cons
      cases e
      exact q
    cases r with
    | cons r1 r2 =>
      rename_i u us
      by_cases hk : k = z
      · subst hk
        refine .inr ⟨k,d,v,u,by simp,by simp,i1,r1,by simp⟩
      · have h2 : (k == z) = false:=by simpa using hk
        have h3 : (z == k) = false:=by simpa using Ne.symm hk
        have ih:=gz_get z (ks:=ks) i2 r2 (by simpa using h)
        rw [List.zip_cons_cons,List.zip_cons_cons,List.find?_cons,List.find?_cons,List.contains_cons]
        simp only [h2,h3,Bool.false_or]
        exact ih
section
variable {X : Cx} {b : Expr} {tb : TE} {pos p0 : Pos} {x : Str}
theorem pe_gidx {a : Addr} {ks : List Str} {ds : List M.D} (hg : Gl X x) (hm : X.mg x = some (.ref a)) (hF : FDict X.w.params X.K a ks ds) (hd : (x == ("__debug__" : Str)) = false) (hb : PE X b tb) (hs : NoSl b) :
    PE X (.Subscript (.Name x p0) b pos) (fun σ H Q=>tb σ H fun y H2=>∃ z d,y = .str z∧(∃ k,((ks.zip ds).find? fun q=>q.1 == z) = some (k,d))∧∀ v,(∀ m,MS.IsD X.K m H2 d v)→Q v H2):=by
  intro pins s σ H Q I h
  refine subD_of PySem.F.slot_dict_getitem.lookup hs (thn (pe_glob hg hm (show RelV (.ref a) (.ref a) from rfl) hd pins s σ H (fun x H1=>x = .ref a∧tb σ H1 _) I ⟨rfl,h⟩) fun u s1 ⟨x',H1,I1,rx,ex,q1⟩=>?_)
  subst ex
  cases rx
  refine thn (hb pins s1 σ H1 _ I1 q1) fun iv s2 ⟨y,H2,I2,ry,z,d,ey,⟨k,ek⟩,q2⟩=>?_
  subst ey
  obtain ⟨us,vs,dd,rv,hI,hl⟩:=fd_dict I2 hF
  refine ⟨dd.typeIs,?_⟩
  rcases gz_get z hI rv hl with ⟨n1,_,_⟩ | ⟨k',d',v',u',f1,f2,f3,f4,_⟩
  · rw [n1] at ek; cases ek
  · rw [f1] at ek
    cases ek
    have hw : valueAt (kzip ks us) (Sum.inr z) = some u':=by
      unfold valueAt
      rw [kz_at,f2]
      rfl
    exact wpAny_getItem_of (kV_is (k:=.inr z) ry) dd.mapOf hw ⟨v',H2,I2.tok _,f4,q2 v' fun m=>f3 m H2⟩
theorem gd_has {X : Cx} {pins : List (Addr × Obj)} {σ : L2.St} {H : Hp} {s : Shared} {a : Addr} {ks : List Str} {ds : List M.D} (I : Inv X pins σ H s) (hF : FDict X.w.params X.K a ks ds) (z : Str) :
    ∃ us,s.heap.DictOf (mixKind X.prog X.w) a (kzip ks us)∧(valueAt (kzip ks us) (Sum.inr z)).isSome = ks.contains z:=by
  obtain ⟨us,vs,dd,rv,hI,hl⟩:=fd_dict I hF
  refine ⟨us,dd,?_⟩
  unfold valueAt
  rw [kz_at]
  rcases gz_get z hI rv hl with ⟨_,n2,n3⟩ | ⟨k',d',v',u',f1,f2,f3,f4,f5⟩
  · rw [n2,n3]; rfl
  · rw [f2,f5]; rfl
theorem pc_gin {a : Addr} {ks : List Str} {ds : List M.D} (neg : Bool) (hg : Gl X x) (hm : X.mg x = some (.ref a)) (hF : FDict X.w.params X.K a ks ds) (hd : (x == ("__debug__" : Str)) = false) (hb : PE X b tb) :
    PC X (if neg then .NotIn else .In) b (.Name x p0) (fun σ H Q=>tb σ H fun y H2=>∃ z,y = .str z∧Q (.bl (ks.contains z != neg)) H2):=by
  intro pins s σ H Q I h
  refine thn (hb pins s σ H _ I h) fun iv s1 ⟨y,H1,I1,ry,z,ey,q1⟩=>?_
  subst ey
  refine thn (pe_glob hg hm (show RelV (.ref a) (.ref a) from rfl) hd pins s1 σ H1 (fun x H2=>x = .ref a∧Q (.bl (ks.contains z != neg)) H2) I1 ⟨rfl,q1⟩) fun u s2 ⟨x',H2,I2,rx,ex,q2⟩=>?_
  subst ex
  cases rx
  obtain ⟨us,dd,hs⟩:=gd_has I2 hF z
  cases neg with
  | false =>
    refine wpAny_in_of (kV_is (k:=.inr z) ry) hF.ne dd.mapOf ?_
    rw [hs]
    refine ⟨.bl _,H2,I2.tok _,rfl,?_⟩
    simpa using q2
  | true =>
    refine wpAny_notIn_of (kV_is (k:=.inr z) ry) hF.ne dd.mapOf ?_
    rw [hs]
    refine ⟨.bl _,H2,I2.tok _,rfl,?_⟩
    simpa using q2
open M (D Cell Store Sl)
theorem pc_ginD {a : Addr} {ks : List Str} {ds : List D} {fb : Sl→Store→Option (D × Store)} (neg : Bool) (hg : Gl X x) (hm : X.mg x = some (.ref a)) (hF : FDict X.w.params X.K a ks ds) (hd : (x == ("__debug__" : Str)) = false) (hb : PE X b (tD X.K fb)) :
    PC X (if neg then .NotIn else .In) b (.Name x p0) (tD X.K fun τ st=>(fb τ st).bind fun p=>match p.1 with
      | .str z=>some (.bl (ks.contains z != neg),p.2)
      | _=>none):=by
  intro pins s σ H Q I h
  refine pc_gin neg hg hm hF hd hb pins s σ H Q I ?_
  obtain ⟨m,st,τ,d,st',R0,S0,e,q⟩:=h
  obtain ⟨d1,s1,e1,e⟩:=bindD e
  refine ⟨m,st,τ,d1,s1,R0,S0,e1,fun y m1 H1 b1 t1 R1 i1=>?_⟩
  cases d1 with
  | str z =>
    cases e
    exact ⟨z,i1.str,q _ m1 H1 b1 t1 R1 (mkBl _)⟩
  | _=>cases e
theorem pe_gidxD {a : Addr} {ks : List Str} {ds : List D} {fb : Sl→Store→Option (D × Store)} (hg : Gl X x) (hm : X.mg x = some (.ref a)) (hF : FDict X.w.params X.K a ks ds) (hd : (x == ("__debug__" : Str)) = false) (hb : PE X b (tD X.K fb)) (hs : NoSl b) :
    PE X (.Subscript (.Name x p0) b pos) (tD X.K fun τ st=>(fb τ st).bind fun p=>match p.1 with
      | .str z=>((ks.zip ds).find? fun q=>q.1 == z).map fun q=>(q.2,p.2)
      | _=>none):=by
  refine (pe_gidx hg hm hF hd hb hs).imp fun σ H Q h=>?_
  obtain ⟨m,st,τ,d,st',R0,S0,e,q⟩:=h
  obtain ⟨d1,s1,e1,e⟩:=bindD e
  refine ⟨m,st,τ,d1,s1,R0,S0,e1,fun y m1 H1 b1 t1 R1 i1=>?_⟩
  cases d1 with
  | str z =>
    obtain ⟨w,e2,e3⟩:=mapD e
    cases e3
    exact ⟨z,w.2,i1.str,⟨w.1,e2⟩,fun v hv=>q _ m1 H1 b1 t1 R1 (hv m1)⟩
  | _=>cases e
theorem dget_of {K : PySem.W.Frag} {m : List Addr} {H : Hp} {kvs : List (D × D)} {xs : List (Key × V)} {kd : D} {y : V} {a : Addr} (hk : M.isKey kd = true) (hkv : IsKV K m H kvs xs) (hH : H a = some (.dK xs)) (iy : MS.IsD K m H kd y) :
    ∃ o,DGet H a y o∧((M.dget kvs kd = none∧o = none)∨∃ d v,M.dget kvs kd = some d∧o = some v∧MS.IsD K m H d v):=by
  obtain ⟨k,hk1⟩:=key_of hk
  have hy:=key_V hk1 iy
  subst hy
  refine ⟨valV xs k,DGet.k hH,?_⟩
  rcases hkv.get hk1 with ⟨h1,h2⟩ | ⟨d,v,h1,h2,h3⟩
  · exact .inl ⟨h1,h2⟩
  · exact .inr ⟨d,v,h1,h2,h3⟩
theorem pc_dinD {a : Expr} {fa fb : Sl→Store→Option (D × Store)} (hu : X.A.units + 1 < cLine) (neg : Bool) (ha : PE X a (tD X.K fa)) (hb : PE X b (tD X.K fb)) :
    PC X (if neg then .NotIn else .In) a b (tD X.K fun τ st=>(fa τ st).bind fun p=>(fb τ p.2).bind fun q=>match q.1 with
      | .loc l=>(M.dicAt q.2 l).bind fun kvs=>if M.isKey p.1 then some (.bl ((M.dget kvs p.1).isSome != neg),q.2) else none
      | _=>none):=by
  have key : ∀ {σ : L2.St} {H : Hp} {Q : VK},tD X.K (fun τ st=>(fa τ st).bind fun p=>(fb τ p.2).bind fun q=>match q.1 with
      | .loc l=>(M.dicAt q.2 l).bind fun kvs=>if M.isKey p.1 then some (.bl ((M.dget kvs p.1).isSome != neg),q.2) else none
      | _=>none) σ H Q→tD X.K fa σ H fun y H1=>tD X.K fb σ H1 fun x H2=>∃ a o,x = .ref a∧DGet H2 a y o∧Q (.bl (o.isSome != neg)) H2:=by
    intro σ H Q h
    obtain ⟨m,st,τ,d,st',R0,S0,e,q⟩:=h
    obtain ⟨d1,s1,e1,e⟩:=bindD e
    obtain ⟨d2,s2,e2,e⟩:=bindD e
    refine ⟨m,st,τ,d1,s1,R0,S0,e1,fun y m1 H1 b1 t1 R1 i1=>⟨m1,s1,τ,d2,s2,R1,S0.mono b1 t1,e2,fun z m2 H2 b2 t2 R2 i2=>?_⟩⟩
    cases d2 with
    | loc l =>
      obtain ⟨kvs,e3,e⟩:=bindO e
      split at e
      · rename_i hk
        cases e
        obtain ⟨a',xs,_,rfl,hH,hkv,_⟩:=R2.dict e3 i2
        obtain ⟨o,g,hg⟩:=dget_of hk hkv hH (isD_mono b2 t2 _ _ i1)
        refine ⟨a',o,rfl,g,?_⟩
        have e4 : o.isSome = (M.dget kvs d1).isSome:=by
          rcases hg with ⟨h1,h2⟩ | ⟨d,v,h1,h2,_⟩
          · rw [h1,h2]; rfl
          · rw [h1,h2]; rfl
        rw [e4]
        exact q _ m2 H2 (b1.trans b2) (t1.trans t2) R2 (mkBl _)
      · cases e
    | _=>cases e
  cases neg with
  | false =>
    intro pins s σ H Q I h
    refine pc_din hu ha hb pins s σ H Q I ?_
    have:=key h
    simpa only [tDIn,Bool.bne_false] using this
  | true =>
    intro pins s σ H Q I h
    refine pc_dnotin hu ha hb pins s σ H Q I ?_
    have:=key h
    simpa only [tDNotIn,Bool.bne_true] using this
theorem pe_didxD {a : Expr} {fa fb : Sl→Store→Option (D × Store)} (hu : X.A.units + 1 < cLine) (ha : PE X a (tD X.K fa)) (hb : PE X b (tD X.K fb)) (hs : NoSl b) :
    PE X (.Subscript a b pos) (tD X.K fun τ st=>(fa τ st).bind fun p=>(fb τ p.2).bind fun q=>match p.1 with
      | .loc l=>(M.dicAt q.2 l).bind fun kvs=>if M.isKey q.1 then (M.dget kvs q.1).map fun d=>(d,q.2) else none
      | _=>none):=by
  refine (pe_dget hu ha hb hs).imp fun σ H Q h=>?_
  obtain ⟨m,st,τ,d,st',R0,S0,e,q⟩:=h
  obtain ⟨d1,s1,e1,e⟩:=bindD e
  obtain ⟨d2,s2,e2,e⟩:=bindD e
  refine ⟨m,st,τ,d1,s1,R0,S0,e1,fun y m1 H1 b1 t1 R1 i1=>⟨m1,s1,τ,d2,s2,R1,S0.mono b1 t1,e2,fun z m2 H2 b2 t2 R2 i2=>?_⟩⟩
  cases d1 with
  | loc l =>
    obtain ⟨kvs,e3,e⟩:=bindO e
    split at e
    · rename_i hk
      obtain ⟨w,e4,e5⟩:=mapD e
      cases e5
      obtain ⟨a',xs,_,rfl,hH,hkv,_⟩:=R2.dict e3 (isD_mono b2 t2 _ _ i1)
      obtain ⟨o,g,hg⟩:=dget_of hk hkv hH i2
      rcases hg with ⟨h1,h2⟩ | ⟨d,v,h1,h2,h3⟩
      · rw [h1] at e4; cases e4
      · rw [h1] at e4
        cases e4
        subst h2
        exact ⟨a',v,rfl,g,q _ m2 H2 (b1.trans b2) (t1.trans t2) R2 h3⟩
    · cases e
  | _=>cases e
theorem pe_dgtD {a : Expr} {apos cpos : Pos} {fa fb : Sl→Store→Option (D × Store)} (hu : X.A.units + 1 < cLine) (ha : PE X a (tD X.K fa)) (hb : PE X b (tD X.K fb)) (hm : M1 X a "get" apos b cpos) :
    PE X (.Call (.Attribute a "get" apos) [b] [] cpos) (tD X.K fun τ st=>(fa τ st).bind fun p=>match p.1 with
      | .loc l=>(M.dicAt p.2 l).bind fun _=>(fb τ p.2).bind fun q=>(M.dicAt q.2 l).bind fun kvs=>if M.isKey q.1 then some ((M.dget kvs q.1).getD .non,q.2) else none
      | _=>none):=by
  refine (pe_dget1 hu ha hb hm).imp fun σ H Q h=>?_
  obtain ⟨m,st,τ,d,st',R0,S0,e,q⟩:=h
  obtain ⟨d1,s1,e1,e⟩:=bindD e
  refine ⟨m,st,τ,d1,s1,R0,S0,e1,fun y m1 H1 b1 t1 R1 i1=>?_⟩
  cases d1 with
  | loc l =>
    obtain ⟨kv0,e0,e⟩:=bindO e
    obtain ⟨d2,s2,e2,e⟩:=bindD e
    obtain ⟨kvs,e3,e⟩:=bindO e
    split at e
    · rename_i hk
      cases e
      obtain ⟨a0,xs0,ha0,rfl,hH0,_,_⟩:=R1.dict e0 i1
      refine ⟨a0,rfl,.inl ⟨_,.inl hH0⟩,m1,s1,τ,d2,s2,R1,S0.mono b1 t1,e2,fun z m2 H2 b2 t2 R2 i2=>?_⟩
      obtain ⟨a',xs,_,ea,hH,hkv,_⟩:=R2.dict e3 (isD_mono b2 t2 _ _ i1)
      cases ea
      obtain ⟨o,g,hg⟩:=dget_of hk hkv hH i2
      refine ⟨o,g,?_⟩
      rcases hg with ⟨h1,h2⟩ | ⟨d,v,h1,h2,h3⟩
      · rw [h1] at q
        subst h2
        exact q _ m2 H2 (b1.trans b2) (t1.trans t2) R2 mkNon
      · rw [h1] at q
        subst h2
        exact q _ m2 H2 (b1.trans b2) (t1.trans t2) R2 h3
    · cases e
  | _=>cases e
end
end MS
end
section
set_option linter.all false
set_option Elab.async false
set_option maxRecDepth 100000
set_option maxHeartbeats 4000000
namespace MS
open PySem PySem.Spec PyProof.Rows L2
def joinL (c : Nat) : List (List Nat)→List Nat
  | []=>[]
  | [p]=>p
  | p::q::r=>p++c::joinL c (q::r)
theorem join_toL (c : Nat) : ∀ ts : List Str,(Str.join ⟨#[c]⟩ ts).cps.toList = joinL c (ts.map (·.cps.toList))
  | []=>rfl
  | [t]=>rfl
  | t::u::r=>by
    have ih:=join_toL c (u::r)
    show (t++⟨#[c]⟩++Str.join ⟨#[c]⟩ (u::r)).cps.toList = _
    show ((t.cps++#[c])++(Str.join ⟨#[c]⟩ (u::r)).cps).toList = t.cps.toList++c::joinL c ((u::r).map (·.cps.toList))
    rw [Array.toList_append,Array.toList_append,ih]
    simp
theorem first_cut {c : Nat} : ∀ {p q a b : List Nat},c ∉ p→c ∉ q→p++c::a = q++c::b→p = q∧a = b
  | [],[],a,b,_,_,e=>by simpa using e
  | [],y::q,a,b,_,hq,e=>by
    have : c = y:=by simpa using congrArg List.head? e
    exact absurd (by rw [this]; exact List.mem_cons_self) hq
  | x::p,[],a,b,hp,_,e=>by
    have : x = c:=by simpa using congrArg List.head? e
    exact absurd (by rw [this]; exact List.mem_cons_self) hp
  | x::p,y::q,a,b,hp,hq,e=>by
    rw [List.cons_append,List.cons_append] at e
    injection e with e1 e2
    obtain ⟨h1,h2⟩:=first_cut (fun z=>hp (List.mem_cons_of_mem _ z)) (fun z=>hq (List.mem_cons_of_mem _ z)) e2
    exact ⟨by rw [e1,h1],h2⟩
theorem uniq {c : Nat} : ∀ {ps qs : List (List Nat)},ps ≠ []→qs ≠ []→(∀ p ∈ ps,c ∉ p)→(∀ q ∈ qs,c ∉ q)→joinL c ps = joinL c qs→ps = qs
  | [],qs,h,_,_,_,_=>absurd rfl h
  | ps,[],_,h,_,_,_=>absurd rfl h
  | [p],[q],_,_,_,_,e=>by rw [show p = q from e]
  | [p],q::q2::qr,_,_,hp,_,e=>by
    have e : p = q++c::joinL c (q2::qr):=e
    exact absurd (by rw [e]; simp) (hp p List.mem_cons_self)
  | p::p2::pr,[q],_,_,_,hq,e=>by
    have e : p++c::joinL c (p2::pr) = q:=e
    exact absurd (by rw [← e]; simp) (hq q List.mem_cons_self)
  | p::p2::pr,q::q2::qr,_,_,hp,hq,e=>by
    have e : p++c::joinL c (p2::pr) = q++c::joinL c (q2::qr):=e
    obtain ⟨h1,h2⟩:=first_cut (hp p List.mem_cons_self) (hq q List.mem_cons_self) e
    rw [h1,uniq (List.cons_ne_nil _ _) (List.cons_ne_nil _ _) (fun z hz=>hp z (List.mem_cons_of_mem _ hz)) (fun z hz=>hq z (List.mem_cons_of_mem _ hz)) h2]
theorem splitC_spec (c : Nat) : ∀ cs : List Nat,M.splitC c cs ≠ []∧(∀ p ∈ M.splitC c cs,c ∉ p)∧joinL c (M.splitC c cs) = cs∧(M.splitC c cs).length ≤ cs.length + 1
  | []=>⟨by simp [M.splitC],by simp [M.splitC],rfl,by simp [M.splitC]⟩
  | x::r=>by
    obtain ⟨h1,h2,h3,h4⟩:=splitC_spec c r
    unfold M.splitC
    by_cases hx : x = c
    · rw [if_pos hx]
      refine ⟨by simp,?_,?_,by simp only [List.length_cons]; omega⟩
      · intro p hp
        rcases List.mem_cons.mp hp with q | q
        · rw [q]; simp
        · exact h2 p q
      · cases hs : M.splitC c r with
        | nil=>exact absurd hs h1
        | cons p ps =>
          rw [hs] at h3
          show []++c::joinL c (p::ps) = _
          rw [h3,hx]
          rfl
    · rw [if_neg hx]
      cases hs : M.splitC c r with
      | nil=>exact absurd hs h1
      | cons p ps =>
        rw [hs] at h2 h3 h4
        refine ⟨by simp,?_,?_,by simp only [List.length_cons] at h4 ⊢; omega⟩
        · intro q hq
          rcases List.mem_cons.mp hq with z | z
          · rw [z]
            intro hm
            rcases List.mem_cons.mp hm with y | y
            · exact hx y.symm
            · exact h2 p List.mem_cons_self y
          · exact h2 q (List.mem_cons_of_mem _ z)
        · cases ps with
          | nil=>show x::p = x::r; rw [show p = r from h3]
          | cons p2 pr =>
            have h3 : p++c::joinL c (p2::pr) = r:=h3
            show (x::p)++c::joinL c (p2::pr) = x::r
            rw [List.cons_append,h3]
theorem split_ne (z y : Str) : Txt.split z y ≠ []:=by
  unfold Txt.split
  split
  · simp
  · split
    · simp
    · intro h
      unfold Builtin.Str.partsBetween at h
      simp at h
theorem split_eq (z : Str) (c : Nat) : Txt.split z ⟨#[c]⟩ = (M.splitC c z.cps.toList).map fun p=>(⟨p.toArray⟩ : Str):=by
  obtain ⟨h1,h2,h3,_⟩:=splitC_spec c z.cps.toList
  have e1:=congrArg (fun t : Str=>t.cps.toList) (PySem.StrLaws.join_split z ⟨#[c]⟩)
  rw [join_toL] at e1
  have e2 : (Txt.split z ⟨#[c]⟩).map (·.cps.toList) = M.splitC c z.cps.toList:=by
    refine uniq (by simpa using split_ne z ⟨#[c]⟩) h1 (fun p hp=>?_) h2 (e1.trans h3.symm)
    obtain ⟨t,ht,rfl⟩:=List.mem_map.mp hp
    exact PySem.StrLaws.split_free z c t ht
  rw [← e2,List.map_map]
  have : ((fun p : List Nat=>(⟨p.toArray⟩ : Str)) ∘ fun t : Str=>t.cps.toList) = id:=funext fun t=>by
    obtain ⟨a⟩:=t
    simp
  rw [this,List.map_id]
section
variable {prog : Program} {w : World} {A : Around} {E : Value→Shared→Prop} {s : Shared} {x : Str} {t : Tok} {Q : Value→Shared→Prop}
theorem split_new {y : Str} {u : Tok} (hy : (y.length == 0) = false) (hz : x.length ≤ sizeLine) (hz2 : (Builtin.Str.partsBetween x (Builtin.Str.occurrences x y 0 x.length (x.length + 1)) y.length).length ≤ sizeLine)
    (hq : ∀ (l : List (Str × Tok)) (k : Nat),l.map (·.1) = Txt.split x y→Q (.ref s.heap.objs.size) { s with heap:=s.heap.push { cls:=.type "list",data:=.seq (strValues l).toArray },toks:=k }) :
    wpAny (model prog w) A (call (.builtin "str.split") [.str x t,.str y u]) Q E s:=by
  cases h1 : (decide (x.length < y.length) || decide (Builtin.Str.strKind x < Builtin.Str.strKind y)) with
  | true=>exact call_meets PySem.F.slot_str_split (typeIs_str _ _ _) PySem.F.entry_str_split (PySem.F.args_str_split_2 _ _) (meets_str_split_cannot_occur x y t u h1) (hq [(x,t)] s.toks (if_pos h1).symm)
  | false =>
    have n1 : ¬ (decide (x.length < y.length) || decide (Builtin.Str.strKind x < Builtin.Str.strKind y)) = true:=by rw [h1]; nofun
    cases h2 : (Builtin.Str.occurrences x y 0 x.length (x.length + 1)).isEmpty with
    | true=>exact call_meets PySem.F.slot_str_split (typeIs_str _ _ _) PySem.F.entry_str_split (PySem.F.args_str_split_2 _ _) (meets_str_split_not_found x y t u h1 hy h2) (hq [(x,t)] s.toks ((if_neg n1).trans (if_pos h2)).symm)
    | false =>
      have n2 : ¬ (Builtin.Str.occurrences x y 0 x.length (x.length + 1)).isEmpty = true:=by rw [h2]; nofun
      refine call_meets PySem.F.slot_str_split (typeIs_str _ _ _) PySem.F.entry_str_split (PySem.F.args_str_split_2 _ _) (meets_str_split_sep x y t u h1 hy h2 hz hz2) ?_
      show wants Q E _ { s with toks:=_,heap:=s.heap.push { cls:=.type "list",data:=.seq (strsFrom s.toks (Builtin.Str.partsBetween x (Builtin.Str.occurrences x y 0 x.length (x.length + 1)) y.length)).toArray } }
      rw [strsFrom_eq]
      exact hq (numbered s.toks _) _ ((numbered_texts _ _).trans ((if_neg n1).trans (if_neg n2)).symm)
end
theorem vals_strs : ∀ l : List (Str × Tok),Vals (l.map fun p=>V.str p.1) (strValues l)
  | []=>.nil
  | p::r=>.cons ⟨p.2,rfl⟩ (vals_strs r)
theorem isDs_strs {K : PySem.W.Frag} {m : List Addr} {H : Hp} : ∀ ts : List Str,IsDs K m H (ts.map M.D.str) (ts.map V.str)
  | []=>mkNil
  | t::r=>mkCons (mkStr t) (isDs_strs r)
section
variable {X : Cx}
theorem mt_splitD : MtM X "str.split" (fun x xs H Q=>∃ m st a ds d st',Rel X.K m st H∧MS.IsD X.K m H a x∧IsDs X.K m H ds xs∧M.mSplit st a ds = some (d,st')∧Post X.K m H d st' Q):=by
  intro pins s σ H x xs v us Q I rx rs h
  obtain ⟨m,st,a,ds,d,st',R0,i1,i2,e,q⟩:=h
  unfold M.mSplit at e
  split at e
  · rename_i z y
    obtain ⟨c,e1,e⟩:=bindO e
    split at e
    · rename_i hl
      cases e
      have hy:=oneOf_eq e1
      subst hy
      have hx:=i1.str
      subst hx
      obtain ⟨y',rfl,iy⟩:=i2.one
      have hy':=iy.str
      subst hy'
      obtain ⟨t,rfl⟩:=rx
      cases rs with
      | cons r rr =>
        cases rr
        obtain ⟨u,rfl⟩:=r
        have hsp:=split_eq z c
        obtain ⟨_,_,_,h4⟩:=splitC_spec c z.cps.toList
        have hll : z.cps.toList.length = z.length:=by simp [Str.length]
        have l2:=lim_eq
        have hlim : M.lim = 16777216:=rfl
        have hparts : (Builtin.Str.partsBetween z (Builtin.Str.occurrences z ⟨#[c]⟩ 0 z.length (z.length + 1)) (⟨#[c]⟩ : Str).length).length ≤ sizeLine:=by
          have:=PySem.StrLaws.occ_length_le z ⟨#[c]⟩ 0 z.length (z.length + 1)
          unfold Builtin.Str.partsBetween
          simp
          omega
        refine split_new rfl (by omega) hparts fun l k hk=>?_
        have hp:=I.hok.fresh (Nat.le_refl s.heap.objs.size)
        have hts : l.map (·.1) = (M.splitC c z.cps.toList).map fun p=>(⟨p.toArray⟩ : Str):=hk.trans hsp
        have hlen : l.length = (M.splitC c z.cps.toList).length:=by simpa using congrArg List.length hts
        refine ⟨.ref s.heap.objs.size,_,I.laid (a:=s.heap.objs.size) (o:=.lst (l.map fun p=>V.str p.1)) (fun _ _ w=>Heap.get?_push_of_some _ w) (Nat.le_refl _) ⟨?_,strValues l,0,vals_strs l,Heap.get?_push_size _ rfl⟩,rfl,?_⟩
        · rw [List.length_map]; omega
        · have ed : (M.splitC c z.cps.toList).map (fun p=>M.D.str ⟨p.toArray⟩) = (l.map (·.1)).map M.D.str:=by rw [hts,List.map_map]; rfl
          have ev : (l.map fun p=>V.str p.1) = (l.map (·.1)).map V.str:=by rw [List.map_map]; rfl
          have key : IsDs X.K m H ((M.splitC c z.cps.toList).map fun p=>M.D.str ⟨p.toArray⟩) (l.map fun p=>V.str p.1):=by
            rw [ed,ev]; exact isDs_strs _
          exact q _ (m++[s.heap.objs.size]) _ (Sub.app _ _) (Tr.of_same (same_new hp)) (R0.new hp key) R0.newLoc
    · cases e
  · cases e
theorem pe_fmt {a : Expr} {ta : TE} {pos : Pos} (ha : PE X a ta) : PE X (.FormattedValue a (-1) none pos) (fun σ H Q=>ta σ H fun x H1=>(∃ i,x = .int i∧i.natAbs.log2 < 1920∧Q (.str (toString i)) H1)∨∃ z,x = .str z∧z.length ≤ sizeLine∧Q (.str z) H1):=by
  intro pins s σ H Q I h
  refine FormattedValue_plain (thn (ha pins s σ H _ I h) fun v s1 ⟨x,H1,I1,r1,q1⟩=>?_)
  rcases q1 with ⟨i,rfl,hi,q⟩ | ⟨z,rfl,hz,q⟩
  · obtain ⟨t,rfl⟩:=r1
    exact formatField_int_small hi ⟨.str _,H1,I1.tok _,⟨_,rfl⟩,q⟩
  · obtain ⟨t,rfl⟩:=r1
    exact formatField_str (fun t' tk=>⟨.str _,H1,I1.tok tk,⟨t',rfl⟩,q⟩) hz
def tJoins : List TE→Str→L2.St→Hp→VK→Prop
  | [],acc,_,H,Q=>acc.length ≤ sizeLine∧Q (.str acc) H
  | t::ts,acc,σ,H,Q=>t σ H fun x H1=>∃ z,x = .str z∧(acc++z).length ≤ sizeLine∧tJoins ts (acc++z) σ H1 Q
inductive PEs (X : Cx) : List Expr→List TE→Prop
  | nil : PEs X [] []
  | cons {p : Expr} {ps : List Expr} {t : TE} {ts : List TE} (h : PE X p t) (r : PEs X ps ts) : PEs X (p::ps) (t::ts)
theorem joins_ok : ∀ {ps : List Expr} {ts : List TE} {acc : Str} {pins : List (Addr × Obj)} {s : Shared} {σ : L2.St} {H : Hp} {Q : VK},PEs X ps ts→Inv X pins σ H s→tJoins ts acc σ H Q →
    wpAny (model X.prog X.w) X.A (joinParts acc (ps.map (eval · X.env))) (EP X pins σ Q) X.xe s
  | _,_,acc,pins,s,σ,H,Q,.nil,I,h=>joinParts_nil ⟨.str acc,H,I.tok _,⟨_,rfl⟩,h.2⟩ h.1
  | _,_,acc,pins,s,σ,H,Q,.cons hp hr,I,h=>by
    refine joinParts_cons (thn (hp pins s σ H _ I h) fun v s1 ⟨x,H1,I1,r1,q1⟩=>?_)
    obtain ⟨z,rfl,hz,q⟩:=q1
    obtain ⟨t,rfl⟩:=r1
    exact ⟨hz,joins_ok hr I1 q⟩
theorem pe_fstr {p1 p2 : Expr} {ps : List Expr} {ts : List TE} {pos : Pos} (h : PEs X (p1::p2::ps) ts) (hev : evalEach ps X.env = ps.map (eval · X.env)) : PE X (.JoinedStr (p1::p2::ps) pos) (fun σ H Q=>tJoins ts Str.empty σ H Q):=by
  intro pins s σ H Q I q
  refine JoinedStr_many ?_
  rw [hev]
  exact joins_ok h I q
open M (D Cell Store Sl)
theorem joins_run {K : PySem.W.Frag} {r : M.R} : ∀ {es : List M.E} {acc z : Str} {m : List Addr} {st st' : Store} {H : Hp} {τ : Sl} {σ : L2.St} {ds : List D} {Q : VK},Rel K m st H→SlotOk K m H τ σ→M.evs (r.ev τ) es st = some (ds,st')→M.catD ds acc = some z→acc.length ≤ sizeLine →
    Post K m H (.str z) st' Q→tJoins (es.map fun e=>tD K fun τ st=>r.ev τ st e) acc σ H Q
  | [],acc,z,m,st,st',H,τ,σ,ds,Q,R0,S0,e,e2,hz,q=>by
    cases e
    cases e2
    exact ⟨hz,q.here R0 (mkStr _)⟩
  | x::es,acc,z,m,st,st',H,τ,σ,ds,Q,R0,S0,e,e2,hz,q=>by
    have e : ((r.ev τ st x).bind fun p=>(M.evs (r.ev τ) es p.2).bind fun q=>some (p.1::q.1,q.2)) = some (ds,st'):=e
    obtain ⟨d1,s1,e1,e⟩:=bindD e
    obtain ⟨w,e3,e⟩:=bindO e
    cases e
    cases d1 with
    | str y =>
      have e2 : (if (acc++y).length ≤ M.lim then M.catD w.1 (acc++y) else none) = some z:=e2
      split at e2
      · rename_i hl
        have l2:=lim_eq
        exact ⟨m,st,τ,.str y,s1,R0,S0,e1,fun v m1 H1 b1 t1 R1 i1=>⟨y,i1.str,by omega,joins_run R1 (S0.mono b1 t1) e3 e2 (by omega) (q.mono b1 t1)⟩⟩
      · cases e2
    | _=>cases e2
end
end MS
end
section
set_option linter.all false
set_option Elab.async false
set_option maxRecDepth 100000
set_option maxHeartbeats 4000000
namespace MS
open PySem PySem.Spec PyProof.Rows L2
open M (D Cell Store Sl)
section
variable {K : PySem.W.Frag} {m m1 : List Addr} {H H1 : Hp}
mutual
theorem isD_nl : ∀ (d : D) (v : V),M.noLoc d = true→MS.IsD K m1 H1 d v→MS.IsD K m H1 d v
  | .non,_,_,h=>by rw [h.non]; exact mkNon
  | .bl _,_,_,h=>by rw [h.bl]; exact mkBl _
  | .int _,_,_,h=>by rw [h.int]; exact mkInt _
  | .str _,_,_,h=>by rw [h.str]; exact mkStr _
  | .tup ds,_,n,h=>by
    obtain ⟨a,xs,rfl,q,r⟩:=h.tup
    unfold M.noLoc at n
    exact mkTup q (isDs_nl ds xs n r)
  | .lst ds,_,n,h=>by
    obtain ⟨a,xs,rfl,q,r⟩:=h.lst
    unfold M.noLoc at n
    exact mkLst q (isDs_nl ds xs n r)
  | .loc l,_,n,h=>by unfold M.noLoc at n; cases n
theorem isDs_nl : ∀ (ds : List D) (xs : List V),M.noLocs ds = true→IsDs K m1 H1 ds xs→IsDs K m H1 ds xs
  | [],_,_,h=>by rw [h.nil]; exact mkNil
  | d::ds,_,n,h=>by
    obtain ⟨x,r,rfl,q,t⟩:=h.cons
    unfold M.noLocs at n
    rw [Bool.and_eq_true] at n
    exact mkCons (isD_nl d x n.1 q) (isDs_nl ds r n.2 t)
end
mutual
theorem isD_back (s : Sub m m1) : ∀ (d : D) (v v1 : V),MS.IsD K m H d v→MS.IsD K m1 H1 d v1→MS.IsD K m H1 d v1
  | .non,_,_,_,h=>by rw [h.non]; exact mkNon
  | .bl _,_,_,_,h=>by rw [h.bl]; exact mkBl _
  | .int _,_,_,_,h=>by rw [h.int]; exact mkInt _
  | .str _,_,_,_,h=>by rw [h.str]; exact mkStr _
  | .tup ds,_,_,h0,h=>by
    obtain ⟨a,xs,rfl,q,r⟩:=h.tup
    obtain ⟨a0,xs0,_,_,r0⟩:=h0.tup
    exact mkTup q (isDs_back s ds xs0 xs r0 r)
  | .lst ds,_,_,h0,h=>by
    obtain ⟨a,xs,rfl,q,r⟩:=h.lst
    obtain ⟨a0,xs0,_,_,r0⟩:=h0.lst
    exact mkLst q (isDs_back s ds xs0 xs r0 r)
  | .loc l,_,_,h0,h=>by
    obtain ⟨a0,e0,_⟩:=h0.loc
    obtain ⟨a,e,rfl⟩:=h.loc
    have:=s l a0 e0
    rw [e] at this
    cases this
    exact mkLoc e0
theorem isDs_back (s : Sub m m1) : ∀ (ds : List D) (xs xs1 : List V),IsDs K m H ds xs→IsDs K m1 H1 ds xs1→IsDs K m H1 ds xs1
  | [],_,_,_,h=>by rw [h.nil]; exact mkNil
  | d::ds,_,_,h0,h=>by
    obtain ⟨x,r,rfl,q,t⟩:=h.cons
    obtain ⟨x0,r0,rfl,q0,t0⟩:=h0.cons
    exact mkCons (isD_back s d x0 x q0 q) (isDs_back s ds r0 r t0 t)
end
theorem isKV_back (s : Sub m m1) : ∀ (kvs : List (D × D)) (xs xs1 : List (Key × V)),IsKV K m H kvs xs→IsKV K m1 H1 kvs xs1→IsKV K m H1 kvs xs1
  | [],_,_,_,h=>h
  | p::r,_,_,⟨k0,v0,xr0,e0,hk0,hv0,hr0⟩,⟨k,v,xr,e,hk,hv,hr⟩=>⟨k,v,xr,e,hk,isD_back s _ _ _ hv0 hv,isKV_back s r _ _ hr0 hr⟩
theorem isC_back (s : Sub m m1) {c : Cell} {a : Addr} (h0 : IsC K m H c a) (h : IsC K m1 H1 c a) : IsC K m H1 c a:=by
  cases c with
  | lst w ds =>
    cases w with
    | true =>
      obtain ⟨xs,e,q⟩:=h
      obtain ⟨xs0,_,q0⟩:=h0
      exact ⟨xs,e,isDs_back s _ _ _ q0 q⟩
    | false =>
      obtain ⟨xs,e,q⟩:=h
      obtain ⟨xs0,_,q0⟩:=h0
      exact ⟨xs,e,isDs_back s _ _ _ q0 q⟩
  | dic kvs =>
    obtain ⟨xs,e,q⟩:=h
    obtain ⟨xs0,_,q0⟩:=h0
    exact ⟨xs,e,isKV_back s _ _ _ q0 q⟩
theorem pre_at {st st0 : Store} (h : st0.take st.length = st) {l : Nat} {c : Cell} (e : st[l]? = some c) : st0[l]? = some c:=by
  have hl:=(List.getElem?_eq_some_iff.mp e).1
  rw [← h,List.getElem?_take,if_pos hl] at e
  exact e
theorem Rel.cutBack {st st0 : Store} (R0 : Rel K m st H) (R1 : Rel K m1 st0 H1) (s : Sub m m1) (h : st0.take st.length = st) {H2 : Hp} (t : Tr H1 H2) (hw : ∀ (l : Nat) (c : Cell) (a : Addr),st[l]? = some c→m[l]? = some a→Wr c = true→H2 a = H1 a) : Rel K m st H2 :=
  ⟨R0.len,R0.nd,fun l c a e ea=>isC_mono (Sub.refl m) t (isC_back s (R0.cell l c a e ea) (R1.cell l c a (pre_at h e) (s l a ea))) fun w=>hw l c a e ea w⟩
end
section
variable {X : Cx}
theorem inv_freeze {pins : List (Addr × Obj)} {s : Shared} {σ : L2.St} {H : Hp} {a : Addr} {xs : List V} (I : Inv X pins σ H s) (h : H a = some (.lst xs)) : ∃ o,Inv X pins σ (upd H a (.frz o (.lst xs))) s:=by
  obtain ⟨z,its,n,r,e⟩:=id (I.hok a _ h)
  refine ⟨{ cls:=.type "list",data:=.seq its.toArray n },I.un (t':=s.toks) (h':=s.heap) ⟨fun b o q _ _ _=>q,fun b o q _ _ _=>⟨o.slots,q⟩,fun b o q hn _=>?_,fun b o q _=>⟨o,q⟩,fun b ys q=>?_,fun b o u q=>?_,fun b ps q=>⟨#[],?_⟩⟩ ?_⟩
  · rw [upd_ne (fun z=>by subst z; rw [h] at hn; cases hn)]
    exact hn
  · rw [upd_ne (ne_of q h (by intro z; cases z))]; exact q
  · rw [upd_ne (ne_of q h (by intro z; cases z))]; exact q
  · rw [upd_ne (ne_of q h (by intro z; cases z)),q]; simp
  · intro b u q
    by_cases hb : b = a
    · subst hb
      rw [upd_same] at q
      cases q
      exact ⟨e,z,its,n,r,e⟩
    · rw [upd_ne hb] at q
      refine (I.hok b u q).stay (fun c v _ w=>w) (fun c w=>?_) fun c ys w=>?_
      · rw [upd_ne (ne_of w h (by intro z; cases z))]; exact w
      · rw [upd_ne (ne_of w h (by intro z; cases z))]; exact w
theorem pe_gc {p : Expr} {f : Sl→Store→Option (D × Store)} (he : PE X p (tD X.K f)) : PE X p (tD X.K fun τ st=>(f τ st).map fun q=>M.gcD st q):=by
  intro pins s σ H Q I h
  obtain ⟨m,st,τ,d,st',R0,S0,e,q⟩:=h
  obtain ⟨⟨d0,st0⟩,e1,e2⟩:=mapD e
  refine thn (he pins s σ H (fun v H1=>∃ m1,Sub m m1∧Tr H H1∧Rel X.K m1 st0 H1∧MS.IsD X.K m1 H1 d0 v) I ⟨m,st,τ,d0,st0,R0,S0,e1,fun v m1 H1 b1 t1 R1 i1=>⟨m1,b1,t1,R1,i1⟩⟩) fun v s1 ⟨x,H1,I1,r1,m1,b1,t1,R1,i1⟩=>?_
  have plain : (d0,st0) = (d,st')→EP X pins σ Q v s1:=fun z=>by
    cases z
    exact ⟨x,H1,I1,r1,q x m1 H1 b1 t1 R1 i1⟩
  unfold M.gcD at e2
  split at e2
  · rename_i hp
    split at e2
    · rename_i hn
      cases e2
      refine ⟨x,H1,I1,r1,q x m H1 (Sub.refl m) t1 (R0.cutBack R1 b1 hp (Tr.refl H1) fun _ _ _ _ _ _=>rfl) (isD_nl _ _ hn i1)⟩
    · split at e2
      · rename_i l hd
        simp only at hd
        split at e2
        · rename_i hl
          split at e2
          · rename_i ds hc
            split at e2
            · rename_i hn
              cases e2
              subst hd
              obtain ⟨a,ha,rfl⟩:=i1.loc
              obtain ⟨xs,hx,ix⟩:=R1.cell l _ a hc ha
              obtain ⟨o,I2⟩:=inv_freeze I1 hx
              have t2 : Tr H1 (upd H1 a (.frz o (.lst xs))):=⟨fun b zs e=>by rw [upd_ne (ne_of e hx (by intro z; cases z))]; exact e,fun b o u e=>by rw [upd_ne (ne_of e hx (by intro z; cases z))]; exact e⟩
              refine ⟨.ref a,_,I2,r1,q _ m _ (Sub.refl m) (t1.trans t2) (R0.cutBack R1 b1 hp t2 fun l' c a' e ea w=>?_) ?_⟩
              · refine upd_ne fun z=>?_
                subst z
                have hlt:=(List.getElem?_eq_some_iff.mp e).1
                have:=R1.nd l' l a' c _ (b1 l' a' ea) ha (pre_at hp e) hc w rfl
                omega
              · exact mkLst (.inl ⟨o,upd_same⟩) (isDs_nl _ _ hn (isDs_mono (Sub.refl m1) t2 _ _ ix))
            · exact plain e2
          · exact plain e2
        · exact plain e2
      · exact plain e2
  · exact plain e2
end
end MS
end
section
set_option linter.all false
set_option Elab.async false
set_option maxRecDepth 100000
set_option maxHeartbeats 4000000
namespace MS
open PySem PySem.Spec PyProof.Rows L2
open M (D Cell Store Sl)
theorem list_extendW (l : Addr) (items : Array Value) (n : Nat) (b : Addr) (items2 : Array Value) (n2 : Nat) (dd2 : Option Addr) (sl2 : Array (Option Value)) (hc0 : ¬(!items.isEmpty && Builtin.List.listTooLong (items.size + items2.size)) = true) (hc1 : items.size ≤ sizeLine) (hs2 : items.size + items2.size ≤ sizeLine + 1) :
    Meets (Builtin.«list.extend» ⟨[.ref l,.ref b],[]⟩) (fun _ R s=>s.heap.get? l = some { cls:=.type "list",dict:=none,data:=.seq items n,slots:=#[] }∧s.heap.get? b = some { cls:=.type "list",dict:=dd2,data:=.seq items2 n2,slots:=sl2 }∧R (.ok (.ret Value.none)) { s with heap:=s.heap.update l (Obj.mapSeq fun x=>x++items2),toks:=s.toks }) :=
  .of_wp fun prog w A R s h=>by
    obtain ⟨hp,g,d,tk,os⟩:=s; obtain ⟨hl,hb,h⟩:=h; have f1:=AutoSeq1.idx_int; have f2:=AutoSeq1.sub_tuple_tuple; have f3:=AutoSeq1.sub_list_list; have f4:=AutoSeq1.sub_tuple_list; have f5:=AutoSeq1.sub_list_tuple;
    have hz' : (items++items2).size ≤ sizeLine + 1:=by rw [Array.size_append]; exact hs2
    wp_walk using (wpAny_updateSeq hl rfl (hz:=hc1) (_hz':=hz')),wpAny_loadPart' hl,wpAny_loadPart' hb; exact ⟨_,rfl,h⟩
theorem list_extendT (l : Addr) (items : Array Value) (n : Nat) (b : Addr) (items2 : Array Value) (n2 : Nat) (dd2 : Option Addr) (sl2 : Array (Option Value)) (hc0 : ¬(!items.isEmpty && Builtin.List.listTooLong (items.size + items2.size)) = true) (hc1 : items.size ≤ sizeLine) (hs2 : items.size + items2.size ≤ sizeLine + 1) :
    Meets (Builtin.«list.extend» ⟨[.ref l,.ref b],[]⟩) (fun _ R s=>s.heap.get? l = some { cls:=.type "list",dict:=none,data:=.seq items n,slots:=#[] }∧s.heap.get? b = some { cls:=.type "tuple",dict:=dd2,data:=.seq items2 n2,slots:=sl2 }∧R (.ok (.ret Value.none)) { s with heap:=s.heap.update l (Obj.mapSeq fun x=>x++items2),toks:=s.toks }) :=
  .of_wp fun prog w A R s h=>by
    obtain ⟨hp,g,d,tk,os⟩:=s; obtain ⟨hl,hb,h⟩:=h; have f1:=AutoSeq1.idx_int; have f2:=AutoSeq1.sub_tuple_tuple; have f3:=AutoSeq1.sub_list_list; have f4:=AutoSeq1.sub_tuple_list; have f5:=AutoSeq1.sub_list_tuple;
    have hz' : (items++items2).size ≤ sizeLine + 1:=by rw [Array.size_append]; exact hs2
    wp_walk using (wpAny_updateSeq hl rfl (hz:=hc1) (_hz':=hz')),wpAny_loadPart' hl,wpAny_loadPart' hb; exact ⟨_,rfl,h⟩
section
variable {X : Cx}
theorem mt_extendD : MtM X "list.extend" (fun x xs H Q=>∃ m st a ds d st',Rel X.K m st H∧MS.IsD X.K m H a x∧IsDs X.K m H ds xs∧M.mExtend st a ds = some (d,st')∧Post X.K m H d st' Q):=by
  intro pins s σ H x xs v us Q I rx rs h
  obtain ⟨m,st,a,ds,d,st',R0,i1,i2,e,q⟩:=h
  unfold M.mExtend at e
  split at e
  · obtain ⟨ds0,e1,e⟩:=bindO e
    obtain ⟨es,e2,e⟩:=bindO e
    split at e
    · rename_i hl
      cases e
      obtain ⟨p,ys,hm,rfl,hp,ix,hs⟩:=R0.wlist e1 i1
      obtain ⟨y,rfl,iy⟩:=i2.one
      have l1:=ix.length
      have l2:=lim_eq
      cases rx
      obtain ⟨u,rfl,ru⟩:=rs.one
      obtain ⟨z,its,n,r,hln,eo⟩:=I.lstM hp
      split at e2
      · rename_i ts
        cases e2
        obtain ⟨b,zs,rfl,hq,iz⟩:=iy.tup
        cases ru
        obtain ⟨its2,r2,⟨⟨cls2,dd2,data2,sl2⟩,h1,h2,n2,h3⟩,_⟩:=I.tuple hq
        simp only at h2 h3
        subst h2 h3
        have l3:=iz.length
        have l4:=r2.length
        have hsz : its.toArray.size + its2.toArray.size ≤ sizeLine:=by rw [List.size_toArray,List.size_toArray]; omega
        have hlong : ¬ (!its.toArray.isEmpty && Builtin.List.listTooLong (its.toArray.size + its2.toArray.size)) = true:=by
          rw [notLongL hsz,Bool.and_false]
          exact Bool.false_ne_true
        refine call_meets F.slot_list_extend ⟨_,eo,rfl⟩ F.entry_list_extend (F.args_list_extend_2 _ _) (list_extendT p its.toArray n b its2.toArray n2 dd2 sl2 hlong (by rw [List.size_toArray]; omega) (by omega)) ⟨eo,h1,?_⟩
        refine ⟨.non,_,I.lset (its':=its++its2) hp eo (by simp) (r.append r2) ?_,rfl,?_⟩
        · rw [List.length_append]; omega
        · exact q _ m _ (Sub.refl m) (Tr.put hp) (R0.put hs hm hp (ix.append iz)) mkNon
      · obtain ⟨b,zs,_,rfl,hq,iz⟩:=R0.seq e2 iy
        cases ru
        obtain ⟨its2,r2,⟨⟨cls2,dd2,data2,sl2⟩,n2,h1,h2,h4,h3⟩,_⟩:=I.list hq
        simp only at h2 h3
        subst h2 h3
        have l3:=iz.length
        have l4:=r2.length
        have hsz : its.toArray.size + its2.toArray.size ≤ sizeLine:=by rw [List.size_toArray,List.size_toArray]; omega
        have hlong : ¬ (!its.toArray.isEmpty && Builtin.List.listTooLong (its.toArray.size + its2.toArray.size)) = true:=by
          rw [notLongL hsz,Bool.and_false]
          exact Bool.false_ne_true
        refine call_meets F.slot_list_extend ⟨_,eo,rfl⟩ F.entry_list_extend (F.args_list_extend_2 _ _) (list_extendW p its.toArray n b its2.toArray n2 dd2 sl2 hlong (by rw [List.size_toArray]; omega) (by omega)) ⟨eo,h1,?_⟩
        refine ⟨.non,_,I.lset (its':=its++its2) hp eo (by simp) (r.append r2) ?_,rfl,?_⟩
        · rw [List.length_append]; omega
        · exact q _ m _ (Sub.refl m) (Tr.put hp) (R0.put hs hm hp (ix.append iz)) mkNon
    · cases e
  · cases e
theorem mt_indexD (hu : X.A.units + 64 < cLine) : MtM X "list.index" (fun x xs H Q=>∃ m st a ds d st',Rel X.K m st H∧MS.IsD X.K m H a x∧IsDs X.K m H ds xs∧M.mIndex st a ds = some (d,st')∧Post X.K m H d st' Q):=by
  intro pins s σ H x xs v us Q I rx rs h
  obtain ⟨m,st,a,ds,d,st',R0,i1,i2,e,q⟩:=h
  unfold M.mIndex at e
  split at e
  · rename_i x0
    obtain ⟨ds0,e1,e⟩:=bindO e
    split at e
    · rename_i hf
      rw [Bool.and_eq_true] at hf
      obtain ⟨j,e2,e3⟩:=mapD e
      cases e3
      obtain ⟨y,rfl,iy⟩:=i2.one
      obtain ⟨u,rfl,ru⟩:=rs.one
      obtain ⟨b,zs,_,rfl,hq,iz⟩:=R0.seq e1 i1
      cases rx
      obtain ⟨its,r,⟨⟨cls,dd,data,sl⟩,n,h1,h2,h4,h3⟩,hz⟩:=I.list hq
      simp only at h2 h3
      subst h2 h3
      have l3:=iz.length
      have l4:=r.length
      obtain ⟨hj,hpj,hnj⟩:=List.findIdx?_eq_some_iff_getElem.mp e2
      have hz2 : (sizeLine : Nat) < 2 ^ 40:=by decide
      have hu1 : X.A.in1.units + 9 < cLine:=by have hz : X.A.in1.units = X.A.units + 1:=rfl; omega
      obtain ⟨ef,ha⟩:=ans_of I X.A.in1 hu1 hf.1 iy ru
      obtain ⟨k1,k2⟩:=ha ds0 zs its hf.2 iz r
      have at_ : ∀ k (hk : k < its.length),ef its[k] = M.eqT ds0[k] x0:=fun k hk=>by
        have g1 : ds0[k]? = some ds0[k]:=by simp
        obtain ⟨x1,w1,q1⟩:=iz.get g1
        obtain ⟨u1,w2,q2⟩:=r.get w1
        have e5 : its[k] = u1:=by
          have : its[k]? = some its[k]:=by simp
          rw [w2] at this
          exact (Option.some.inj this).symm
        rw [e5]
        obtain ⟨_,k3⟩:=ha [ds0[k]] [x1] [u1] (by simp [M.flats,flats_get hf.2 g1]) (mkCons q1 mkNil) (.cons q2 .nil)
        simpa using k3
      refine call_meets F.slot_list_index ⟨_,h1,rfl⟩ F.entry_list_index (F.args_list_index_2 _ _) (SeqAt.list_indexAt b its.toArray n dd sl u ef j (by rw [List.size_toArray]; omega) (by omega) ?_ ?_) ⟨h1,fun y hy=>k1 y (by simpa using hy),?_⟩
      · rw [List.getElem_toArray,at_ j (by omega)]
        exact hpj
      · intro k hk hkj
        rw [List.getElem_toArray,at_ k (by simpa using hk)]
        simpa using hnj k hkj
      · exact ⟨.int j,H,I.tok _,⟨_,rfl⟩,q.here R0 (mkInt _)⟩
    · cases e
  · cases e
def Itg (lo c : Int) (n : Nat) : It:=⟨fun i _=>i < n,fun i H x H'=>H' = H∧x = .int (lo + i * c),fun i _=>n ≤ i⟩
theorem turn_rangeC {P : Program} {w : World} {K : PySem.W.Frag} {tg : Expr} (it : Addr) (lo c : Int) (n : Nat) : Turn P w K tg (Itg lo c n) [it] it (fun i h=>IsRangeIter h it (lo + (i : Nat) * c) ((n : Int) - (i : Nat)) c) where
  mem:=by simp
  obj:=fun i h st b hb=>by
    have e : b = it:=by simpa using hb
    subst e
    exact ⟨_,st,fun v z=>by
      have z' : Data.fields _ = Data.cell v:=z
      cases z'⟩
  keep:=fun i h h' st k=>k it (by simp) _ st
  item:=by
    intro X hP hw hK hc i pins s σ H E I hf st hg
    subst hP hw hK
    obtain ⟨f0,f1,f2,f3,f4,f5⟩:=hf it (by simp)
    have W:=Walks.range (prog:=X.prog) (w:=X.w) (I.ok.hd hc) it lo c n
    refine W.item i s _ _ hg st fun v h' tk hv st' kk=>?_
    obtain ⟨t,rfl⟩:=hv
    have I1 : Inv X pins σ H { s with heap:=h',toks:=tk }:=I.turned (fun b o hb e=>kk b o (by simpa using hb) e) f0 f1 f3 f4 f5
    exact ⟨_,rfl,go_of (s:={ s with heap:=h',toks:=tk }) (n:="range_iterator") st' rfl rfl (by decide) ⟨.int (lo + i * c),H,I1,⟨t,rfl⟩,⟨rfl,rfl⟩,st',fun b hb=>(hf b hb).1⟩⟩
  done:=by
    intro X hP hw hK hc i pins s σ H E I hf st hg
    subst hP hw hK
    obtain ⟨f0,f1,f2,f3,f4,f5⟩:=hf it (by simp)
    exact wpAny_pyNext_range_end (I.ok.hd hc) st (by have : n ≤ i:=hg; omega) fun h' eb=>⟨rfl,I.turned (t':=s.toks) (fun b o hb e=>eb b o hb e) f0 f1 f3 f4 f5⟩
  self:=fun _ _ _ _ _ st h=>wpAny_pyIter_rangeiter st h
theorem size_pos {lo hi c : Int} (hc : 0 < c) : Builtin.Range.rangeSize lo hi c = if lo < hi then (hi - lo - 1) / c + 1 else 0:=by
  unfold Builtin.Range.rangeSize
  rw [if_pos hc]
theorem small_c {lo hi c : Int} (h1 : -(2 ^ 62) ≤ lo) (h2 : lo < 2 ^ 62) (h3 : -(2 ^ 62) ≤ hi) (h4 : hi < 2 ^ 62) (hc : 0 < c) (hc2 : c < 1000) : Builtin.Range.small lo hi c = true:=by
  unfold Builtin.Range.small
  rw [size_pos hc]
  have e1 : lo < hi→0 ≤ (hi - lo - 1) / c:=fun h=>Int.ediv_nonneg (by omega) (by omega)
  have e2 : lo < hi→(hi - lo - 1) / c ≤ hi - lo - 1:=fun h=>Int.ediv_le_self _ (by omega)
  simp only [Builtin.Range.rangeFitsLong,Bool.and_eq_true,Bool.or_eq_true,decide_eq_true_eq,beq_iff_eq,hc,if_true]
  split <;> omega
theorem range_itC {tg : Expr} {pins : List (Addr × Obj)} {σ : L2.St} {H : Hp} {s : Shared} {R : It→Hp→Prop} {E : Value→Shared→Prop} {lo hi c : Int} {t u v : Tok} {tk : Nat} (I : Inv X pins σ H s) (h1 : -(2 ^ 62) ≤ lo) (h2 : lo < 2 ^ 62) (h3 : -(2 ^ 62) ≤ hi) (h4 : hi < 2 ^ 62) (hc : 0 < c) (hc2 : c < 1000)
    (q : R (Itg lo c (if lo < hi then (hi - lo - 1) / c + 1 else 0).toNat) H) : wpAny (model X.prog X.w) X.A (pyIter (.ref s.heap.objs.size)) (PIE X pins σ tg R) E { s with heap:=s.heap.push { cls:=.type "range",data:=.fields #[.int lo t,.int hi u,.int c v] },toks:=tk }:=by
  refine wpAny_pyIter_range (IsRange.new ..) (small_c h1 h2 h3 h4 hc hc2) ?_
  have I1 : Inv X pins σ H { s with heap:=s.heap.push { cls:=.type "range",data:=.fields #[.int lo t,.int hi u,.int c v] },toks:=tk }:=I.kept fun b o e=>Heap.get?_push_of_some _ e
  refine ⟨(s.heap.push { cls:=.type "range",data:=.fields #[.int lo t,.int hi u,.int c v] }).objs.size,[(s.heap.push { cls:=.type "range",data:=.fields #[.int lo t,.int hi u,.int c v] }).objs.size],_,_,H,rfl,
    I1.kept (t':=tk) fun b o e=>Heap.get?_push_of_some _ e,turn_rangeC _ lo c (if lo < hi then (hi - lo - 1) / c + 1 else 0).toNat,?_,fun b hb=>?_,q⟩
  · have e1 : lo + ((0 : Nat) : Int) * c = lo:=by simp
    have e2 : (((if lo < hi then (hi - lo - 1) / c + 1 else 0).toNat : Nat) : Int) - ((0 : Nat) : Int) = Builtin.Range.rangeSize lo hi c:=by
      rw [size_pos hc]
      have : lo < hi→0 ≤ (hi - lo - 1) / c:=fun h=>Int.ediv_nonneg (by omega) (by omega)
      split <;> omega
    show IsRangeIter _ _ (lo + ((0 : Nat) : Int) * c) ((((if lo < hi then (hi - lo - 1) / c + 1 else 0).toNat : Nat) : Int) - ((0 : Nat) : Int)) c
    rw [e1,e2]
    exact Heap.get?_push_size _ rfl
  · have e : b = (s.heap.push { cls:=.type "range",data:=.fields #[.int lo t,.int hi u,.int c v] }).objs.size:=by simpa using hb
    subst e
    exact I1.fpOk (Nat.le_refl _) (I1.hok.fresh (Nat.le_refl _))
def iRng3 (ta : TA) : TI:=fun σ H R=>ta σ H fun vs H1=>∃ i j k : Int,vs = [.int i,.int j,.int k]∧(-(2 ^ 62) ≤ i∧i < 2 ^ 62∧-(2 ^ 62) ≤ j∧j < 2 ^ 62∧0 < k∧k < 1000)∧R (Itg i k (if i < j then (j - i - 1) / k + 1 else 0).toNat) H1
theorem pi_range3 {tg a b c : Expr} {ta : TA} {p pos : Pos} (hg : Gl X "range") (hm : X.mg "range" = none) (ha : PA X [a,b,c] ta) (hs : starEach [a,b,c] X.env = [(false,eval a X.env),(false,eval b X.env),(false,eval c X.env)]) (hs2 : starEach [b,c] X.env = [(false,eval b X.env),(false,eval c X.env)]) :
    PI X tg (.Call (.Name "range" p) [a,b,c] [] pos) (iRng3 ta):=by
  intro pins s σ H R I h
  refine Call_ (ld_blt I hg hm boot_range (PyProof.Rows.callWith_type1 (thn (ha pos pins s σ H _ I h) fun us s1 ⟨vs,H1,I1,r1,q1⟩=>?_) (by rw [hs,hs2]) (by rw [hs2]; rfl)))
  obtain ⟨i,j,k,e,⟨q1,q2,q3,q4,q5,q6⟩,q⟩:=q1
  subst e
  cases r1 with
  | cons r rr =>
    cases rr with
    | cons r' rr =>
      cases rr with
      | cons r'' rr =>
        cases rr
        obtain ⟨t,rfl⟩:=r
        obtain ⟨t',rfl⟩:=r'
        obtain ⟨t'',rfl⟩:=r''
        exact call_range_3 (by omega) (range_itC I1 q1 q2 q3 q4 q5 q6 q) (.inl (PyProof.noPylong_of_log2 (by
          have h5 : k.natAbs.log2 < 10:=(Nat.log2_lt (by omega)).mpr (by omega)
          omega)))
end
end MS
end
section
set_option linter.all false
set_option Elab.async false
set_option maxRecDepth 100000
set_option maxHeartbeats 4000000
namespace MS
open PySem PySem.Spec PyProof.Rows L2
open M (D Cell Store Sl E S T Src Fn Out R)
theorem ps_setComp {X : Cx} {elt tg iter : Expr} {ifs : List Expr} {scope : Scope} {pos pos' cpos : Pos} {N : List Str} {src : List (Option Nat)} {wi : TI} {g : TG} {tt : TT} {te : TE} {i : Nat} {x : Str} (hc : X.calm = true) (S : CompScope X N src scope) (hi : PI X tg iter wi)
    (hg : ∀ C fp s H,PG (cxComp X N scope C fp s H) tg g) (ht : ∀ C fp s H,TestR (cxComp X N scope C fp s H) ifs tt) (he : ∀ C fp s H,PE (cxComp X N scope C fp s H) elt te)
    (hs : ∀ x,foldedSetIterable iter X.env x = pure x) (hN : X.N.Nodup) (hx : X.N[i]? = some x) (hl : Loc X.env.scope x) (hf : X.fn x = true∨X.env.scope.names.lookup x = some .local)
    (hsw : swapsWith (.ListComp elt [⟨tg,iter,ifs,0⟩] scope cpos) (some (.Name x pos')) pos.line X.env = pure true) :
    PS X (.Assign [.Name x pos'] (.ListComp elt [⟨tg,iter,ifs,0⟩] scope cpos) pos) (tAsg (tComp src wi g tt te) (gName i)):=by
  intro pins s σ H D I h
  rw [exec_Assign_Name_used _ _ _ _ hsw]
  refine wpAny_bind (wpAny_standAt (wpAny_bind ?_))
  show wpAny _ X.A (do let _ ← comprehension (.ListComp elt [⟨tg,iter,ifs,0⟩] scope cpos) scope X.env _ (newList []) false (eval iter X.env) (some (assign (.Name x pos') X.env))) _ _ s
  refine wpAny_bind (wpAny_mono (wpAny_comprehension_free (use:=some (assign (.Name x pos') X.env)) (Q:=fun _ s'=>SP X pins D .next s') rfl hs (comp_clos S I) S.kind S.loc (thn (hi pins s σ H _ I h) fun v s1 h1=>thn h1 fun itv s2 h2=>?_)) (fun _ s' hq=>wpAny_pure (wpAny_pure hq)) fun _ _ e=>e)
  obtain ⟨it,fp,tn,J,H2,e,I2,T,st2,f2,W,w0,turn⟩:=h2
  subst e
  refine comp_block hc I2 T st2 f2 S (fun C=>hg C fp s2 H2) (fun C=>ht C fp s2 H2) (fun C=>he C fp s2 H2) W w0 turn ?_
  intro Dd C s' H' acc fin nD I' fC hm
  obtain ⟨m',hn⟩:=hm
  obtain ⟨c0,c1,c2,c3,c4,c5⟩:=fC
  show wpAny _ X.A (assign (.Name x pos') X.env (.ref Dd)) _ _ _
  refine wpAny_assign_Name (store_ok2 I' hN hx hl (show RelV (.ref Dd) (.ref Dd) from rfl) (fun s'' I'' hsb=>?_) hf)
  obtain ⟨a,sb,ha⟩:=hsb
  have hCa : C ≠ a:=by
    rcases ha with z | z
    · rw [z]; exact c1
    · exact fun q=>c4 x a z q.symm
  refine ⟨m',hn.sameBut sb hCa,fun h' sb'=>?_⟩
  exact ⟨_,_,I''.turned (t':=s''.toks) (fun b o hb e=>(sb'.2 b hb).trans e) c0 c1 c3 c4 c5,fin Dd nD⟩
def iSeq (K : PySem.W.Frag) (tl : TE) : TI:=fun σ H R=>tl σ H fun x H1=>(∃ a,x = .ref a∧(((∃ xs,SqL K H1 a xs)∧R (Itl K a) H1)∨((∃ xs,SqT K H1 a xs)∧R (Itt K a) H1)))∨∃ z,x = .str z∧z.cps.all (· < 128) = true∧R (Its z) H1
theorem pi_seq {X : Cx} {tg l : Expr} {tl : TE} (hl : PE X l tl) : PI X tg l (iSeq X.K tl):=by
  intro pins s σ H R I h
  refine thn (hl pins s σ H _ I h) fun v s1 ⟨x,H1,I1,r1,q1⟩=>?_
  rcases q1 with ⟨a,e,q⟩ | ⟨z,e,ha,q⟩
  · subst e
    cases r1
    rcases q with ⟨⟨xs,hq⟩,q⟩ | ⟨⟨xs,hq⟩,q⟩
    · obtain ⟨its,rv,p,hz⟩:=I1.list hq
      refine wpAny_pyIter_list p.isList ?_
      refine ⟨s1.heap.objs.size,[s1.heap.objs.size],_,_,H1,rfl,I1.kept (t':=s1.toks) fun b o e=>Heap.get?_push_of_some _ e,turn_list a _,⟨_,Heap.get?_push_size _ rfl,rfl,rfl⟩,fun b hb=>?_,q⟩
      have e : b = s1.heap.objs.size:=by simpa using hb
      subst e
      exact I1.fpOk (Nat.le_refl _) (I1.hok.fresh (Nat.le_refl _))
    · obtain ⟨its,rv,p,hz⟩:=I1.tuple hq
      refine wpAny_pyIter_tuple (show s1.heap.IsTuple a its.toArray from p) ?_
      refine ⟨s1.heap.objs.size,[s1.heap.objs.size],_,_,H1,rfl,I1.kept (t':=s1.toks) fun b o e=>Heap.get?_push_of_some _ e,turn_tuple a _,⟨_,Heap.get?_push_size _ rfl,rfl,rfl⟩,fun b hb=>?_,q⟩
      have e : b = s1.heap.objs.size:=by simpa using hb
      subst e
      exact I1.fpOk (Nat.le_refl _) (I1.hok.fresh (Nat.le_refl _))
  · subst e
    obtain ⟨t,rfl⟩:=r1
    refine wpAny_pyIter_ascii ha ?_
    refine ⟨s1.heap.objs.size,[s1.heap.objs.size],_,_,H1,rfl,I1.kept (t':=s1.toks) fun b o e=>Heap.get?_push_of_some _ e,turn_text z t _,⟨_,Heap.get?_push_size _ rfl,rfl,rfl⟩,fun b hb=>?_,q⟩
    have e : b = s1.heap.objs.size:=by simpa using hb
    subst e
    exact I1.fpOk (Nat.le_refl _) (I1.hok.fresh (Nat.le_refl _))
structure Glo where
  cs : List (Str × D)
  ds : List (Str × List Str × List D)
structure Ctx where
  N : List Str
  sc : Scope
  fns : List Str
  glo : Glo
def bName : M.B→String
  | .len=>"len"
  | .min=>"min"
  | .max=>"max"
  | .tuple=>"tuple"
  | .list=>"list"
  | .all=>"all"
  | .sorted=>"sorted"
  | .int=>"int"
  | .str=>"str"
def relab (scope sc : Scope) : Scope:={ scope with names:=scope.names.map fun (n,k)=>if (k == NameKind.free && sc.kind == .function && sc.names.lookup n == some .cell) then (n,NameKind.cell) else (n,k) }
def tlOk (N : List Str) (sc : Scope) (t : T) : Bool:=t.slots.all fun i=>match N[i]? with
  | some x=>sc.names.lookup x == some .local
  | none=>false
theorem tlOk_of {N : List Str} {sc : Scope} {t : T} (h : tlOk N sc t = true) : ∀ i ∈ t.slots,∀ x,N[i]? = some x→sc.names.lookup x = some .local:=by
  intro i hi x hx
  unfold tlOk at h
  have:=List.all_eq_true.mp h i hi
  rw [hx] at this
  simpa using this
def Star (p : Expr) : Prop:=∀ es env,starEach (p::es) env = (false,eval p env)::starEach es env
inductive CkTys (c : Ctx) : List M.Ty→List Expr→Prop
  | nil : CkTys c [] []
  | cons {t ts ps pos} (ht : t ≠ .non) (hg : c.sc.names.lookup (Str.ofString t.name) = some .globalImplicit) (h : CkTys c ts ps) : CkTys c (t::ts) (.Name (Str.ofString t.name) pos::ps)
inductive CkTs (c : Ctx) : List Nat→List Expr→Prop
  | nil : CkTs c [] []
  | cons {i x pos is es} (hN : c.N[i]? = some x) (hl : c.sc.names.lookup x = some .local∨c.sc.names.lookup x = some .cell) (h : CkTs c is es) : CkTs c (i::is) (.Name x pos::es)
inductive CkT (c : Ctx) : T→Expr→Prop
  | tup {is es k pos} (h : CkTs c is es) : CkT c (.tup is) (.Tuple es k pos)
  | var {i x pos} (hN : c.N[i]? = some x) (hl : c.sc.names.lookup x = some .local∨c.sc.names.lookup x = some .cell) : CkT c (.var i) (.Name x pos)
def gcOk : Expr→Bool
  | .Call _ _ _ _=>true
  | .ListComp _ _ _ _=>true
  | .List _ _=>true
  | .BinOp _ _ _ _=>true
  | .Subscript _ _ _=>true
  | _=>false
mutual
inductive CkE : Ctx→E→Expr→Prop
  | var {c i x pos} (hN : c.N[i]? = some x) (hv : Vis c.sc x) (hd : (x == ("__debug__" : Str)) = false) (hcd : (x == ("__classdict__" : Str)) = false) : CkE c (.var i) (.Name x pos)
  | int {c i j pos} : CkE c (.lit (.int i)) (.Constant (.int i) j pos)
  | bl {c i j pos} : CkE c (.lit (.bl i)) (.Constant (.bool i) j pos)
  | non {c j pos} : CkE c (.lit .non) (.Constant .none j pos)
  | str {c i j pos} : CkE c (.lit (.str i)) (.Constant (.str i) j pos)
  | glo {c x d pos} (hg : c.sc.names.lookup x = some .globalImplicit) (hm : (x,d) ∈ c.glo.cs) (hd : (x == ("__debug__" : Str)) = false) : CkE c (.glo x d) (.Name x pos)
  | bin {c op a b pa pb pos} (ha : CkE c a pa) (hb : CkE c b pb) : CkE c (.bin op a b) (.BinOp pa op pb pos)
  | neg {c a pa pos} (ha : CkE c a pa) : CkE c (.neg a) (.UnaryOp .USub pa pos)
  | not {c a pa pos} (ha : CkE c a pa) : CkE c (.not a) (.UnaryOp .Not pa pos)
  | cmp {c op a b pa pb pos} (ha : CkE c a pa) (hb : CkE c b pb) (hm : behindInMarks op pb = false) : CkE c (.cmp op a b) (.Compare pa [op] [pb] pos)
  | cmp2 {c op op' a b d pa pb pd pos} (ha : CkE c a pa) (hb : CkE c b pb) (hd : CkE c d pd) (hm : lastMarks [op,op'] [pb,pd] = false) : CkE c (.cmp2 op op' a b d) (.Compare pa [op,op'] [pb,pd] pos)
  | and2 {c a b pa pb pos} (ha : CkE c a pa) (hb : CkE c b pb) : CkE c (.and a b) (.BoolOp .And [pa,pb] pos)
  | andN {c a b pa pb pd r pos} (ha : CkE c a pa) (hb : CkE c b (.BoolOp .And (pb::pd::r) pos)) : CkE c (.and a b) (.BoolOp .And (pa::pb::pd::r) pos)
  | or2 {c a b pa pb pos} (ha : CkE c a pa) (hb : CkE c b pb) : CkE c (.or a b) (.BoolOp .Or [pa,pb] pos)
  | orN {c a b pa pb pd r pos} (ha : CkE c a pa) (hb : CkE c b (.BoolOp .Or (pb::pd::r) pos)) : CkE c (.or a b) (.BoolOp .Or (pa::pb::pd::r) pos)
  | ite {c q a b pq pa pb pos} (hq : CkE c q pq) (ha : CkE c a pa) (hb : CkE c b pb) : CkE c (.ite q a b) (.IfExp pq pa pb pos)
  | tup {c es ps k pos} (h : CkEs c es ps) : CkE c (.tup es) (.Tuple ps k pos)
  | lst {c es ps pos} (h : CkEs c es ps) : CkE c (.lst es) (.List ps pos)
  | idx {c a b pa pb pos} (ha : CkE c a pa) (hb : CkE c b pb) (hs : PlainIx pb) : CkE c (.idx a b) (.Subscript pa pb pos)
  | call {c f x es p ps p0 pos} (hg : c.sc.names.lookup x = some .globalImplicit) (hf : c.fns[f]? = some x) (hd : (x == ("__debug__" : Str)) = false) (h : CkEs c es (p::ps)) : CkE c (.call f es) (.Call (.Name x p0) (p::ps) [] pos)
  | bcall {c b es p ps p0 pos} (hg : c.sc.names.lookup (Str.ofString (bName b)) = some .globalImplicit) (h : CkEs c es (p::ps)) : CkE c (.bcall b es) (.Call (.Name (Str.ofString (bName b)) p0) (p::ps) [] pos)
  | isi1 {c t a pa p0 p1 pos} (hg : c.sc.names.lookup ("isinstance" : Str) = some .globalImplicit) (ht : t ≠ .non) (hgt : c.sc.names.lookup (Str.ofString t.name) = some .globalImplicit) (ha : CkE c a pa) :
      CkE c (.isi a [t] false) (.Call (.Name "isinstance" p0) [pa,.Name (Str.ofString t.name) p1] [] pos)
  | isiN {c ts a pa p0 ps k p1 pos} (hl : ts.length ≤ 1000) (hg : c.sc.names.lookup ("isinstance" : Str) = some .globalImplicit) (ht : CkTys c ts ps) (ha : CkE c a pa) : CkE c (.isi a ts true) (.Call (.Name "isinstance" p0) [pa,.Tuple ps k p1] [] pos)
  | append {c a e x xp pe apos cpos} (ha : CkE c a (.Name x xp)) (he : CkE c e pe) (hl : (apos.endLine == cpos.line) = true) : CkE c (.meth a .append [e]) (.Call (.Attribute (.Name x xp) "append" apos) [pe] [] cpos)
  | extend {c a e x xp pe apos cpos} (ha : CkE c a (.Name x xp)) (he : CkE c e pe) (hl : (apos.endLine == cpos.line) = true) : CkE c (.meth a .extend [e]) (.Call (.Attribute (.Name x xp) "extend" apos) [pe] [] cpos)
  | index {c a e pa pe apos cpos} (ha : CkE c a pa) (he : CkE c e pe) (hb : ∀ env,attributeBase pa "index" env (eval pa env) = eval pa env) (hl : (apos.endLine == cpos.line) = true) : CkE c (.meth a .index [e]) (.Call (.Attribute pa "index" apos) [pe] [] cpos)
  | find {c a e pa pe apos cpos} (ha : CkE c a pa) (he : CkE c e pe) (hb : ∀ env,attributeBase pa "find" env (eval pa env) = eval pa env) (hl : (apos.endLine == cpos.line) = true) : CkE c (.meth a .find [e]) (.Call (.Attribute pa "find" apos) [pe] [] cpos)
  | join {c a e pa pe apos cpos} (ha : CkE c a pa) (he : CkE c e pe) (hb : ∀ env,attributeBase pa "join" env (eval pa env) = eval pa env) (hl : (apos.endLine == cpos.line) = true) : CkE c (.meth a .join [e]) (.Call (.Attribute pa "join" apos) [pe] [] cpos)
  | split {c a e pa pe apos cpos} (ha : CkE c a pa) (he : CkE c e pe) (hb : ∀ env,attributeBase pa "split" env (eval pa env) = eval pa env) (hl : (apos.endLine == cpos.line) = true) : CkE c (.meth a .split [e]) (.Call (.Attribute pa "split" apos) [pe] [] cpos)
  | gc {c a p} (hp : gcOk p = true) (hg : ∀ b,a ≠ .gc b) (ha : CkE c a p) : CkE c (.gc a) p
  | fmt {c a pa pos} (ha : CkE c a pa) : CkE c (.fmt a) (.FormattedValue pa (-1) none pos)
  | fstr {c es p1 p2 ps pos} (h : CkEs c es (p1::p2::ps)) (hev : ∀ env,evalEach ps env = ps.map (eval · env)) : CkE c (.fstr es) (.JoinedStr (p1::p2::ps) pos)
  | comp {c t it elt sr tg iter pelt scope pos N} (hk : scope.kind = .function) (hcell : ∀ y ∈ scope.names,y.2 ≠ .cell) (hfree : ∀ y ∈ scope.names,y.2 = .free→c.sc.names.lookup y.1 = some .cell∨c.sc.names.lookup y.1 = some .free)
      (hloc : ∀ y ∈ scope.names,y.2 = .local→scope.names.lookup y.1 = some .local) (hlen : sr.length = N.length) (hsrc : ∀ (j i : Nat),sr[j]? = some (some i)→∃ x,N[j]? = some x∧c.N[i]? = some x∧scope.names.lookup x = some .free)
      (hnd : N.Nodup) (hs : ∀ env x,foldedSetIterable iter env x = pure x) (hi : CkI c tg it iter) (ht : CkT ⟨N,relab scope c.sc,c.fns,c.glo⟩ t tg) (htl : tlOk N (relab scope c.sc) t = true) (he : CkE ⟨N,relab scope c.sc,c.fns,c.glo⟩ elt pelt) :
      CkE c (.comp t it none elt sr) (.ListComp pelt [⟨tg,iter,[],0⟩] scope pos)
  | compIf {c t it q elt sr tg iter pq pelt scope pos N} (hk : scope.kind = .function) (hcell : ∀ y ∈ scope.names,y.2 ≠ .cell) (hfree : ∀ y ∈ scope.names,y.2 = .free→c.sc.names.lookup y.1 = some .cell∨c.sc.names.lookup y.1 = some .free)
      (hloc : ∀ y ∈ scope.names,y.2 = .local→scope.names.lookup y.1 = some .local) (hlen : sr.length = N.length) (hsrc : ∀ (j i : Nat),sr[j]? = some (some i)→∃ x,N[j]? = some x∧c.N[i]? = some x∧scope.names.lookup x = some .free)
      (hnd : N.Nodup) (hs : ∀ env x,foldedSetIterable iter env x = pure x) (hi : CkI c tg it iter) (ht : CkT ⟨N,relab scope c.sc,c.fns,c.glo⟩ t tg) (htl : tlOk N (relab scope c.sc) t = true)
      (hq : CkE ⟨N,relab scope c.sc,c.fns,c.glo⟩ q pq) (he : CkE ⟨N,relab scope c.sc,c.fns,c.glo⟩ elt pelt) : CkE c (.comp t it (some q) elt sr) (.ListComp pelt [⟨tg,iter,[pq],0⟩] scope pos)
  | dic0 {c pos} : CkE c (.dic []) (.Dict [] [] pos)
  | dic {c es k v ks vs pos} (h : CkP c es (k::ks) (v::vs)) (h15 : (k::ks).length ≤ 15) : CkE c (.dic es) (.Dict (k::ks) (v::vs) pos)
  | didx {c a b pa pb pos} (ha : CkE c a pa) (hb : CkE c b pb) (hs : NoSl pb) : CkE c (.didx a b) (.Subscript pa pb pos)
  | din {c a b pa pb pos} (ha : CkE c a pa) (hb : CkE c b pb) (hm : behindInMarks .In pb = false) : CkE c (.din false a b) (.Compare pa [.In] [pb] pos)
  | dnin {c a b pa pb pos} (ha : CkE c a pa) (hb : CkE c b pb) (hm : behindInMarks .NotIn pb = false) : CkE c (.din true a b) (.Compare pa [.NotIn] [pb] pos)
  | dgt {c a b pa pb apos cpos} (ha : CkE c a pa) (hb : CkE c b pb) (hbs : ∀ env,attributeBase pa "get" env (eval pa env) = eval pa env) (hl : (apos.endLine == cpos.line) = true) (htr : ∀ env,backTo cpos (starEach [pb] env) = [(false,eval pb env)]) : CkE c (.dgt a b) (.Call (.Attribute pa "get" apos) [pb] [] cpos)
  | gidx {c x ks ds b pb p0 pos} (hg : c.sc.names.lookup x = some .globalImplicit) (hm : (x,ks,ds) ∈ c.glo.ds) (hd : (x == ("__debug__" : Str)) = false) (hb : CkE c b pb) (hs : NoSl pb) : CkE c (.gidx x ks ds b) (.Subscript (.Name x p0) pb pos)
  | gin {c x ks ds b pb p0 pos} (hg : c.sc.names.lookup x = some .globalImplicit) (hm : (x,ks,ds) ∈ c.glo.ds) (hd : (x == ("__debug__" : Str)) = false) (hb : CkE c b pb) : CkE c (.gin false x ks b) (.Compare pb [.In] [.Name x p0] pos)
  | gnin {c x ks ds b pb p0 pos} (hg : c.sc.names.lookup x = some .globalImplicit) (hm : (x,ks,ds) ∈ c.glo.ds) (hd : (x == ("__debug__" : Str)) = false) (hb : CkE c b pb) : CkE c (.gin true x ks b) (.Compare pb [.NotIn] [.Name x p0] pos)
  | sli {c a lo hi pa pl ph p2 pos} (ha : CkE c a pa) (hl : CkO c lo pl) (hh : CkO c hi ph) : CkE c (.sli a lo hi) (.Subscript pa (.Slice pl ph none p2) pos)
inductive CkP : Ctx→List E→List (Option Expr)→List Expr→Prop
  | nil {c} : CkP c [] [] []
  | cons {c k v es pk pv ks vs} (hk : CkE c k pk) (hv : CkE c v pv) (t : CkP c es ks vs) : CkP c (k::v::es) (some pk::ks) (pv::vs)
inductive CkO : Ctx→Option E→Option Expr→Prop
  | none {c} : CkO c none none
  | some {c e p} (h : CkE c e p) : CkO c (some e) (some p)
inductive CkEs : Ctx→List E→List Expr→Prop
  | nil {c} : CkEs c [] []
  | cons {c e es p ps} (h : CkE c e p) (t : CkEs c es ps) : CkEs c (e::es) (p::ps)
inductive CkI : Ctx→Expr→E→Expr→Prop
  | rng1 {c tg a pa p0 pos} (hg : c.sc.names.lookup ("range" : Str) = some .globalImplicit) (ha : CkE c a pa) : CkI c tg (.rng1 a) (.Call (.Name "range" p0) [pa] [] pos)
  | rng2 {c tg a b pa pb p0 pos} (hg : c.sc.names.lookup ("range" : Str) = some .globalImplicit) (ha : CkE c a pa) (hb : CkE c b pb) : CkI c tg (.rng2 a b) (.Call (.Name "range" p0) [pa,pb] [] pos)
  | rng3 {c tg a b d pa pb pd p0 pos} (hg : c.sc.names.lookup ("range" : Str) = some .globalImplicit) (ha : CkE c a pa) (hb : CkE c b pb) (hd : CkE c d pd) : CkI c tg (.rng3 a b d) (.Call (.Name "range" p0) [pa,pb,pd] [] pos)
  | zip {c es k tp a b pa pb p0 pos} (hg : c.sc.names.lookup ("zip" : Str) = some .globalImplicit) (ha : CkE c a pa) (hb : CkE c b pb) : CkI c (.Tuple es k tp) (.zip a b) (.Call (.Name "zip" p0) [pa,pb] [] pos)
  | seq {c tg e p} (h : CkE c e p) : CkI c tg e p
end
mutual
inductive CkS : Ctx→S→Stmt→Prop
  | set {c i e x p pos pos'} (hN : c.N[i]? = some x) (hl : c.sc.names.lookup x = some .local∨c.sc.names.lookup x = some .cell) (h : CkE c e p) (hs : ∀ env,swapsWith p (some (.Name x pos')) pos.line env = pure false) : CkS c (.set (.var i) e) (.Assign [.Name x pos'] p pos)
  | setC {c i e x p pos pos'} (hN : c.N[i]? = some x) (hl : c.sc.names.lookup x = some .local∨c.sc.names.lookup x = some .cell) (h : CkE c e p) (hc : ∃ elt gs sc q,p = .ListComp elt gs sc q) (hs : ∀ env : Env,env.scope = c.sc→(swapsWith p (some (.Name x pos')) pos.line env = pure false∨swapsWith p (some (.Name x pos')) pos.line env = pure true)) : CkS c (.set (.var i) e) (.Assign [.Name x pos'] p pos)
  | setIx {c a i e pa pi pe tpos pos} (ha : CkE c a pa) (hi : CkE c i pi) (he : CkE c e pe)
      (hs : ∀ env,swapsWithSole [.Subscript pa pi tpos] pe pos.line env = pure false) (hw : ∀ env,swappedStores [.Subscript pa pi tpos] pe env = pure none) (h1 : ∀ env,(assignEach [.Subscript pa pi tpos] env).map (·.2) = [assign (.Subscript pa pi tpos) env])
      (hA : ∀ env v,assign (.Subscript pa pi tpos) env v = (do
        let ov ← holding [v] (eval pa env)
        let iv ← holding [v,ov] (eval pi env)
        standAt tpos
        holding [v,ov,iv] (setItem ov iv v)
        release [v,ov,iv] [])) : CkS c (.setIx a i e) (.Assign [.Subscript pa pi tpos] pe pos)
  | dset {c a i e pa pi pe tpos pos} (ha : CkE c a pa) (hi : CkE c i pi) (he : CkE c e pe) (hs : ∀ env,swapsWith pe (some (.Subscript pa pi tpos)) pos.line env = pure false) : CkS c (.dset a i e) (.Assign [.Subscript pa pi tpos] pe pos)
  | rais {c p} : CkS c .rais p
  | setT {c is e es k p pos tpos} (ht : CkTs c is es) (h : CkE c e p) (hs : ∀ env,swapsWithSole [.Tuple es k tpos] p pos.line env = pure false) (hw : ∀ env,swappedStores [.Tuple es k tpos] p env = pure none) (h1 : ∀ env,(assignEach [.Tuple es k tpos] env).map (·.2) = [assign (.Tuple es k tpos) env]) :
      CkS c (.set (.tup is) e) (.Assign [.Tuple es k tpos] p pos)
  | whil {c q body pq pb pos} (hq : CkE c q pq) (hb : CkSs c body pb) : CkS c (.whil q body) (.While pq pb [] pos)
  | aug {c i op e x p pos pos'} (hN : c.N[i]? = some x) (hl : c.sc.names.lookup x = some .local∨c.sc.names.lookup x = some .cell) (h : CkE c e p) : CkS c (.aug i op e) (.AugAssign (.Name x pos') op p pos)
  | expr {c e p pos} (h : CkE c e p) (hs : ∀ env,swapsWith p none pos.line env = pure false) : CkS c (.expr e) (.Expr p pos)
  | ret {c e p pos} (h : CkE c e p) : CkS c (.ret e) (.Return (some p) pos)
  | retN {c pos} : CkS c .retN (.Return none pos)
  | ite {c q a b pq pa pb pos} (hq : CkE c q pq) (ha : CkSs c a pa) (hb : CkSs c b pb) : CkS c (.ite q a b) (.If pq pa pb pos)
  | forr {c t it body tg iter pb pos} (ht : CkT c t tg) (hi : CkI c tg it iter) (hs : ∀ env x,foldedSetIterable iter env x = pure x) (hb : CkSs c body pb) : CkS c (.forr t it body) (.For tg iter pb [] pos)
  | brk {c pos} : CkS c .brk (.Break pos)
  | cnt {c pos} : CkS c .cnt (.Continue pos)
  | pass {c pos} : CkS c .pass (.Pass pos)
inductive CkSs : Ctx→List S→List Stmt→Prop
  | nil {c} : CkSs c [] []
  | cons {c s ss p ps} (h : CkS c s p) (t : CkSs c ss ps) : CkSs c (s::ss) (p::ps)
  | doc {c ss x j pos pos' ps} (t : CkSs c ss ps) : CkSs c ss (.Expr (.Constant (.str x) j pos) pos'::ps)
end
theorem CkE.star {c : Ctx} {e : E} {p : Expr} (h : CkE c e p) : Star p:=by
  cases h with
  | gc hp hg ha =>
    cases p with
    | Call=>exact fun _ _=>rfl
    | ListComp=>exact fun _ _=>rfl
    | List=>exact fun _ _=>rfl
    | BinOp=>exact fun _ _=>rfl
    | Subscript=>exact fun _ _=>rfl
    | _=>cases hp
  | _=>exact fun _ _=>rfl
def spN (K : PySem.W.Frag) (fns : List Fn) (n f : Nat) : Sp:=fun vs H Q _=>∃ m st ds d st',Rel K m st H∧IsDs K m H ds vs∧M.callD fns n f ds st = some (d,st')∧Post K m H d st' Q
def FTab (P : Program) (w : World) (K : PySem.W.Frag) (mg : Str→Option Value) (base : Heap) (fns : List Fn) (names : List Str) (n : Nat) : Prop:=∀ (f : Nat) (x : Str),names[f]? = some x→∃ (fa : Addr) (fd : FuncData) (ps : List Str),
  mg x = some (.ref fa)∧FnOk P w K mg base CX0 n fa fd ps (spN K fns n f)∧PySem.W.keepIn K (.ref fa) = true∧Binds K fd ps []
structure Mo (K : PySem.W.Frag) (mg : Str→Option Value) (glo : Glo) (prm : Params) : Prop where
  gds : ∀ x ks ds,(x,ks,ds) ∈ glo.ds→∃ a,mg x = some (.ref a)∧FDict prm K a ks ds
  glo : ∀ x d,(x,d) ∈ glo.cs→∃ u v,mg x = some u∧RelV v u∧∀ m H,IsD K m H d v
  len : mg "len" = none
  min : mg "min" = none
  max : mg "max" = none
  tuple : mg "tuple" = none
  list : mg "list" = none
  all : mg "all" = none
  sorted : mg "sorted" = none
  isinstance : mg "isinstance" = none
  range : mg "range" = none
  int : mg "int" = none
  bool : mg "bool" = none
  str : mg "str" = none
  zip : mg "zip" = none
  any : mg "any" = none
  enumerate : mg "enumerate" = none
  reversed : mg "reversed" = none
  sum : mg "sum" = none
  set : mg "set" = none
  dict : mg "dict" = none
structure Good (fns : List Fn) (dl : Nat) (c : Ctx) (X : Cx) : Prop where
  room : Room dl X.A
  calm : X.calm = true
  N : X.N = c.N
  sc : X.env.scope = c.sc
  nd : c.N.Nodup
  kind : c.sc.kind = .function
  tab : FTab X.prog X.w X.K X.mg X.base fns c.fns dl
  mo : Mo X.K X.mg c.glo X.w.params
  xe : X.xe = fun _ _=>False
end MS
end
section
set_option linter.all false
set_option Elab.async false
set_option maxRecDepth 100000
set_option maxHeartbeats 4000000
namespace MS
open PySem PySem.Spec PyProof.Rows L2
open M (D Cell Store Sl E S T Src Fn Out R)
theorem noStars {c : Ctx} : ∀ {es : List E} {ps : List Expr},CkEs c es ps→∀ (pos : Pos) (env : Env),(backTo pos (starEach ps env)).any (·.1) = false
  | _,_,.nil,_,_=>rfl
  | _,_,.cons h t,pos,env=>by
    rw [h.star]
    show (false || (backTo pos (starEach _ env)).any (·.1)) = false
    rw [noStars t pos env]
    rfl
theorem Good.gl {fns : List Fn} {dl : Nat} {c : Ctx} {X : Cx} (G : Good fns dl c X) {x : Str} (h : c.sc.names.lookup x = some .globalImplicit) : Gl X x:=by
  show X.env.scope.names.lookup x = _
  rw [G.sc]; exact h
theorem relabel_eq {scope sc : Scope} {env : Env} (h : env.scope = sc) : relabel scope env = relab scope sc:=by
  unfold relabel relab Env.kindOf
  rw [h]
theorem Good.inner {fns : List Fn} {dl : Nat} {c : Ctx} {X : Cx} (G : Good fns dl c X) {N : List Str} {scope : Scope} {C : Addr} {fp : List Addr} {s : Shared} {H : Hp} (hk : scope.kind = .function) (hnd : N.Nodup) : Good fns dl ⟨N,relab scope c.sc,c.fns,c.glo⟩ (cxComp X N scope C fp s H) :=
  ⟨G.room,G.calm,rfl,relabel_eq G.sc,hnd,hk,G.tab,G.mo,rfl⟩
def IsRow (K : PySem.W.Frag) (m : List Addr) (H : Hp) (k : RK) (a : Addr) : D→Prop
  | .tup ds=>k = .tup∧∃ xs,SqT K H a xs∧IsDs K m H ds xs
  | .loc l=>k = .lst∧m[l]? = some a
  | .lst ds=>k = .lst∧∃ xs,SqF K H a xs∧IsDs K m H ds xs
  | _=>False
theorem IsRow.mono {K : PySem.W.Frag} {m m' : List Addr} {H H' : Hp} {k : RK} {a : Addr} {d : D} (h : IsRow K m H k a d) (b : Sub m m') (t : Tr H H') : IsRow K m' H' k a d:=by
  cases d with
  | tup ds=>obtain ⟨e,xs,q,r⟩:=h; exact ⟨e,xs,t.sqT q,isDs_mono b t ds xs r⟩
  | loc l=>exact ⟨h.1,b l a h.2⟩
  | lst ds=>obtain ⟨e,xs,q,r⟩:=h; exact ⟨e,xs,t.sqF q,isDs_mono b t ds xs r⟩
  | _=>exact h.elim
theorem IsRow.sq {K : PySem.W.Frag} {m : List Addr} {st : Store} {H : Hp} {k : RK} {a : Addr} {d : D} {ds : List D} (h : IsRow K m H k a d) (R0 : Rel K m st H) (e : M.rowAt st d = some ds) : ∃ xs,k.sq K H a xs∧IsDs K m H ds xs:=by
  cases d with
  | tup es =>
    cases e
    obtain ⟨rfl,xs,q,r⟩:=h
    exact ⟨xs,q,r⟩
  | loc l =>
    obtain ⟨rfl,ha⟩:=h
    obtain ⟨a',xs,ha',z,q,r⟩:=R0.list e (mkLoc ha)
    cases z
    exact ⟨xs,q,r⟩
  | lst es =>
    cases e
    obtain ⟨rfl,xs,q,r⟩:=h
    exact ⟨xs,q.sq,r⟩
  | _=>exact h.elim
theorem isRow_of {K : PySem.W.Frag} {m : List Addr} {st : Store} {H : Hp} {d : D} {v : V} {ds : List D} (iv : MS.IsD K m H d v) (R0 : Rel K m st H) (e : M.rowAt st d = some ds) : ∃ k a,v = .ref a∧IsRow K m H k a d∧∃ xs,k.sq K H a xs:=by
  cases d with
  | tup es =>
    obtain ⟨a,xs,rfl,q,r⟩:=iv.tup
    exact ⟨.tup,a,rfl,⟨rfl,xs,q,r⟩,xs,q⟩
  | loc l =>
    obtain ⟨a,xs,ha,rfl,q,r⟩:=R0.list e iv
    exact ⟨.lst,a,rfl,⟨rfl,ha⟩,xs,q⟩
  | lst es =>
    obtain ⟨a,xs,rfl,q,r⟩:=iv.lst
    exact ⟨.lst,a,rfl,⟨rfl,xs,q,r⟩,xs,q.sq⟩
  | _=>cases e
theorem IsRow.sq' {K : PySem.W.Frag} {m : List Addr} {st : Store} {H : Hp} {a : Addr} {d : D} {ds : List D} (h : IsRow K m H .lst a d) (R0 : Rel K m st H) (e : M.seqAt st d = some ds) : ∃ xs,SqL K H a xs∧IsDs K m H ds xs:=by
  cases d with
  | loc l=>exact h.sq R0 e
  | lst l=>exact h.sq R0 e
  | _=>cases e
theorem isRow_of' {K : PySem.W.Frag} {m : List Addr} {st : Store} {H : Hp} {d : D} {v : V} {ds : List D} (iv : MS.IsD K m H d v) (R0 : Rel K m st H) (e : M.seqAt st d = some ds) : ∃ a,v = .ref a∧IsRow K m H .lst a d∧∃ xs,SqL K H a xs:=by
  cases d with
  | loc l =>
    obtain ⟨a,xs,ha,rfl,q,r⟩:=R0.list e iv
    exact ⟨a,rfl,⟨rfl,ha⟩,xs,q⟩
  | lst l =>
    obtain ⟨a,xs,rfl,q,r⟩:=iv.lst
    exact ⟨a,rfl,⟨rfl,xs,q,r⟩,xs,q.sq⟩
  | _=>cases e
def IsSrc (K : PySem.W.Frag) (m : List Addr) (H : Hp) : Src→It→Prop
  | .rng lo n,J=>J = Itr lo n
  | .tup ds,J=>∃ a xs,J = Itt K a∧SqT K H a xs∧IsDs K m H ds xs
  | .lst d,J=>∃ a,IsRow K m H .lst a d∧J = Itl K a
  | .str z,J=>J = Its z
  | .rgs lo c n,J=>J = Itg lo c n
  | .zip x y,J=>∃ (k1 k2 : RK) (a b : Addr),J = Itz K k1 k2 a b∧IsRow K m H k1 a x∧IsRow K m H k2 b y
theorem IsSrc.mono {K : PySem.W.Frag} {m m' : List Addr} {H H' : Hp} {s : Src} {J : It} (h : IsSrc K m H s J) (b : Sub m m') (t : Tr H H') : IsSrc K m' H' s J:=by
  cases s with
  | rng lo n=>exact h
  | tup ds=>obtain ⟨a,xs,e,q,r⟩:=h; exact ⟨a,xs,e,t.sqT q,isDs_mono b t ds xs r⟩
  | lst l=>obtain ⟨a,e,q⟩:=h; exact ⟨a,e.mono b t,q⟩
  | str z=>exact h
  | rgs lo c n=>exact h
  | zip x y=>obtain ⟨k1,k2,a,a',e,h1,h2⟩:=h; exact ⟨k1,k2,a,a',e,h1.mono b t,h2.mono b t⟩
theorem IsSrc.done {K : PySem.W.Frag} {m : List Addr} {st : Store} {H : Hp} {s : Src} {J : It} {i : Nat} (h : IsSrc K m H s J) (R0 : Rel K m st H) (e : s.at st i = some none) : J.stop i H:=by
  cases s with
  | rng lo n =>
    cases h
    simp only [Src.at] at e
    split at e
    · cases e
    · rename_i q
      exact Nat.not_lt.mp q
  | rgs lo c n =>
    cases h
    simp only [Src.at] at e
    split at e
    · cases e
    · rename_i q
      exact Nat.not_lt.mp q
  | tup ds =>
    obtain ⟨a,xs,rfl,q,r⟩:=h
    simp only [Src.at,Option.some.injEq] at e
    exact ⟨xs,q,by rw [← r.length]; exact List.getElem?_eq_none_iff.mp e⟩
  | lst l =>
    obtain ⟨a,ha,rfl⟩:=h
    simp only [Src.at] at e
    obtain ⟨ds,e1,e2⟩:=mapD e
    obtain ⟨xs,q,r⟩:=ha.sq' R0 e1
    exact ⟨xs,q,by rw [← r.length]; exact List.getElem?_eq_none_iff.mp e2⟩
  | str z =>
    cases h
    simp only [Src.at,Option.some.injEq] at e
    have:=List.getElem?_eq_none_iff.mp e
    rw [List.length_map] at this
    exact this
  | zip x y =>
    obtain ⟨k1,k2,a,b,rfl,h1,h2⟩:=h
    simp only [Src.at] at e
    obtain ⟨ds,e1,e⟩:=bindO e
    obtain ⟨es,e2,e3⟩:=mapD e
    obtain ⟨xs,q1,r1⟩:=h1.sq R0 e1
    obtain ⟨ys,q2,r2⟩:=h2.sq R0 e2
    refine ⟨xs,ys,q1,q2,?_⟩
    unfold M.pairAt at e3
    rw [← r1.length,← r2.length]
    cases z1 : ds[i]? with
    | none=>exact .inl (List.getElem?_eq_none_iff.mp z1)
    | some d1 =>
      cases z2 : es[i]? with
      | none=>exact .inr (List.getElem?_eq_none_iff.mp z2)
      | some d2=>rw [z1,z2] at e3; cases e3
theorem IsSrc.next {K : PySem.W.Frag} {m : List Addr} {st : Store} {H : Hp} {s : Src} {J : It} {i : Nat} {d : D} (h : IsSrc K m H s J) (R0 : Rel K m st H) (e : s.at st i = some (some d)) : J.go i H∧∀ x H',J.yld i H x H'→Same H H'∧MS.IsD K m H' d x:=by
  cases s with
  | rng lo n =>
    cases h
    simp only [Src.at,Option.some.injEq] at e
    split at e
    · rename_i q
      cases e
      refine ⟨q,?_⟩
      rintro x H' ⟨rfl,rfl⟩
      exact ⟨fun _ _ z=>z,mkInt _⟩
    · cases e
  | rgs lo c n =>
    cases h
    simp only [Src.at,Option.some.injEq] at e
    split at e
    · rename_i q
      cases e
      refine ⟨q,?_⟩
      rintro x H' ⟨rfl,rfl⟩
      exact ⟨fun _ _ z=>z,mkInt _⟩
    · cases e
  | tup ds =>
    obtain ⟨a,xs,rfl,q,r⟩:=h
    simp only [Src.at,Option.some.injEq] at e
    obtain ⟨x,ex,ix⟩:=r.get e
    refine ⟨⟨xs,x,q,ex⟩,?_⟩
    rintro y H' ⟨rfl,z⟩
    have:=z xs q
    rw [ex] at this
    cases this
    exact ⟨fun _ _ z=>z,ix⟩
  | lst l =>
    obtain ⟨a,ha,rfl⟩:=h
    simp only [Src.at] at e
    obtain ⟨ds,e1,e2⟩:=mapD e
    obtain ⟨xs,q,r⟩:=ha.sq' R0 e1
    obtain ⟨x,ex,ix⟩:=r.get e2
    refine ⟨⟨xs,x,q,ex⟩,?_⟩
    rintro y H' ⟨rfl,z⟩
    have:=z xs q
    rw [ex] at this
    cases this
    exact ⟨fun _ _ z=>z,ix⟩
  | str z =>
    cases h
    simp only [Src.at,Option.some.injEq] at e
    rw [List.getElem?_map] at e
    cases hc : z.cps.toList[i]? with
    | none=>rw [hc] at e; cases e
    | some c =>
      rw [hc] at e
      cases e
      refine ⟨(List.getElem?_eq_some_iff.mp hc).1,?_⟩
      rintro x H' ⟨rfl,c',hc',rfl⟩
      rw [hc] at hc'
      cases hc'
      exact ⟨fun _ _ w=>w,mkStr _⟩
  | zip u v =>
    obtain ⟨k1,k2,a,b,rfl,h1,h2⟩:=h
    simp only [Src.at] at e
    obtain ⟨ds,e1,e⟩:=bindO e
    obtain ⟨es,e2,e3⟩:=mapD e
    obtain ⟨xs,q1,r1⟩:=h1.sq R0 e1
    obtain ⟨ys,q2,r2⟩:=h2.sq R0 e2
    unfold M.pairAt at e3
    cases z1 : ds[i]? with
    | none=>rw [z1] at e3; cases e3
    | some d1 =>
      cases z2 : es[i]? with
      | none=>rw [z1,z2] at e3; cases e3
      | some d2 =>
        rw [z1,z2] at e3
        cases e3
        obtain ⟨x,ex,ix⟩:=r1.get z1
        obtain ⟨y,ey,iy⟩:=r2.get z2
        refine ⟨⟨xs,ys,x,y,q1,q2,ex,ey⟩,?_⟩
        rintro w H' ⟨p,x',y',rfl,hp,rfl,f1,f2⟩
        have g1:=f1 xs q1
        rw [ex] at g1
        cases g1
        have g2:=f2 ys q2
        rw [ey] at g2
        cases g2
        have sm:=same_new (o:=.tup [x,y]) hp
        exact ⟨sm,mkTup (SqT.of upd_same) (isDs_mono (Sub.refl _) (Tr.of_same sm) _ _ (mkCons ix (mkCons iy mkNil)))⟩
def tI (K : PySem.W.Frag) (f : Sl→Store→Option (Src × Store)) : TI:=fun σ H R=>∃ m st τ s st',Rel K m st H∧SlotOk K m H τ σ∧f τ st = some (s,st')∧∀ m' H' J,Sub m m'→Tr H H'→Rel K m' st' H'→IsSrc K m' H' s J→R J H'
theorem _root_.L2.PI.imp {X : Cx} {tg e : Expr} {t t' : TI} (h : PI X tg e t) (f : ∀ σ H R,t' σ H R→t σ H R) : PI X tg e t':=fun pins s σ H Q I q=>h pins s σ H Q I (f σ H Q q)
def PostO (K : PySem.W.Frag) (m : List Addr) (H : Hp) (o : Out) (st' : Store) (Dn : Ends) : Prop:=∀ m' H',Sub m m'→Tr H H'→Rel K m' st' H'→match o with
  | .nx τ=>∀ σ',SlotOk K m' H' τ σ'→Dn.nx σ' H'
  | .rt d=>∀ v,IsD K m' H' d v→Dn.rt v H'
  | .bk τ=>∀ σ',SlotOk K m' H' τ σ'→Dn.bk σ' H'
  | .ct τ=>∀ σ',SlotOk K m' H' τ σ'→Dn.ct σ' H'
theorem PostO.mono {K : PySem.W.Frag} {m m1 : List Addr} {H H1 : Hp} {o : Out} {st' : Store} {Dn : Ends} (p : PostO K m H o st' Dn) (s : Sub m m1) (t : Tr H H1) : PostO K m1 H1 o st' Dn:=fun m' H' s' t' r=>p m' H' (s.trans s') (t.trans t') r
def tS (K : PySem.W.Frag) (f : Sl→Store→Option (Out × Store)) : TS:=fun Dn σ H=>∃ m st τ o st',Rel K m st H∧SlotOk K m H τ σ∧f τ st = some (o,st')∧PostO K m H o st' Dn
structure AllOk (fns : List Fn) (dl n : Nat) : Prop where
  e : ∀ c X,Good fns dl c X→∀ e p,CkE c e p→PE X p (tD X.K fun τ st=>(M.rn fns dl n).ev τ st e)
  t : ∀ c X,Good fns dl c X→∀ e p,CkE c e p→PT X p (tTs X.K fun τ st=>(M.rn fns dl n).tst τ st e)
  w : ∀ c X,Good fns dl c X→∀ e op ps pos,CkE c e (.BoolOp op ps pos)→PW X (.BoolOp op ps pos) (tTs X.K fun τ st=>(M.rn fns dl n).tst τ st e)
  s : ∀ c X,Good fns dl c X→(∀ x,X.fn x = true)→∀ ss ps,CkSs c ss ps→PSs X ps (tS X.K fun τ st=>(M.rn fns dl n).ex τ st ss)
theorem allOk_zero (fns : List Fn) (dl : Nat) : AllOk fns dl 0 where
  e:=fun c X G e p h pins s σ H Q I q=>by obtain ⟨m,st,τ,d,st',_,_,z,_⟩:=q; cases z
  t:=fun c X G e p h pins s σ H Q I q=>by obtain ⟨m,st,τ,d,st',_,_,z,_⟩:=q; cases z
  w:=fun c X G e op ps pos h wh pins s σ H Q I q=>by obtain ⟨m,st,τ,d,st',_,_,z,_⟩:=q; cases z
  s:=fun c X G hf ss ps h pins s σ H Q I q=>by obtain ⟨m,st,τ,d,st',_,_,z,_⟩:=q; cases z
section
variable {fns : List Fn} {dl n : Nat} {c : Ctx} {X : Cx}
theorem args_ok (A : AllOk fns dl n) (G : Good fns dl c X) : ∀ {es : List E} {ps : List Expr},CkEs c es ps→PA X ps (tL X.K fun τ st=>M.evs ((M.rn fns dl n).ev τ) es st)
  | _,_,.nil=>pa_nil.imp fun _ _ _ h=>tL_nil h
  | _,_,.cons (e:=e) (es:=es) h t=>(pa_cons (A.e c X G _ _ h) (args_ok A G t) (h.star _ _)).imp fun _ _ _ q =>
      tL_cons (fa:=fun τ st=>(M.rn fns dl n).ev τ st e) (fr:=fun τ st=>M.evs ((M.rn fns dl n).ev τ) es st) q
theorem iter_ok (A : AllOk fns dl n) (G : Good fns dl c X) {it : E} {tg iter : Expr} (h : CkI c tg it iter) : PI X tg iter (tI X.K fun τ st=>M.src (M.rn fns dl n) τ st it):=by
  have seq : ∀ {e p},CkE c e p→(∀ τ st,M.src (M.rn fns dl n) τ st e = ((M.rn fns dl n).ev τ st e).bind fun p=>match p.1 with
      | .tup ds=>some (.tup ds,p.2)
      | .str z=>if z.cps.all (· < 128) then some (.str z,p.2) else none
      | d=>(M.seqAt p.2 d).map fun _=>(.lst d,p.2))→PI X tg p (tI X.K fun τ st=>M.src (M.rn fns dl n) τ st e):=by
    intro e p he hsrc
    refine (pi_seq (A.e c X G e p he)).imp fun σ H R q=>?_
    obtain ⟨m,st,τ,s,st',R0,S0,e1,q⟩:=q
    have e1:=(hsrc τ st).symm.trans e1
    obtain ⟨d,s1,e2,e1⟩:=bindD e1
    refine ⟨m,st,τ,d,s1,R0,S0,e2,fun x m1 H1 b1 t1 R1 i1=>?_⟩
    cases d with
    | tup ds =>
      cases e1
      obtain ⟨a,xs,rfl,hq,ix⟩:=i1.tup
      exact .inl ⟨a,rfl,.inr ⟨⟨xs,hq⟩,q m1 H1 _ b1 t1 R1 ⟨a,xs,rfl,hq,ix⟩⟩⟩
    | loc l =>
      obtain ⟨ds,e3,e4⟩:=mapD e1
      cases e4
      obtain ⟨a,rfl,ha,xs,hq⟩:=isRow_of' i1 R1 e3
      exact .inl ⟨a,rfl,.inl ⟨⟨xs,hq⟩,q m1 H1 _ b1 t1 R1 ⟨a,ha,rfl⟩⟩⟩
    | lst l =>
      obtain ⟨ds,e3,e4⟩:=mapD e1
      cases e4
      obtain ⟨a,rfl,ha,xs,hq⟩:=isRow_of' i1 R1 e3
      exact .inl ⟨a,rfl,.inl ⟨⟨xs,hq⟩,q m1 H1 _ b1 t1 R1 ⟨a,ha,rfl⟩⟩⟩
    | str z =>
      dsimp only at e1
      split at e1
      · rename_i hz
        cases e1
        exact .inr ⟨z,i1.str,hz,q m1 H1 _ b1 t1 R1 rfl⟩
      · cases e1
    | _=>cases e1
  cases h with
  | @rng1 _ _ a pa p0 pos hg ha =>
    refine (pi_range1 (G.gl hg) G.mo.range (args_ok A G (.cons ha .nil)) (by rw [ha.star]; rfl)).imp fun σ H R q=>?_
    obtain ⟨m,st,τ,s,st',R0,S0,e1,q⟩:=q
    have e1 : (((M.rn fns dl n).ev τ st a).bind fun p=>match p.1 with
      | .int n=>if M.big n then none else some (Src.rng 0 n.toNat,p.2)
      | _=>none) = some (s,st'):=e1
    obtain ⟨d,s1,e2,e1⟩:=bindD e1
    cases d with
    | int k =>
      dsimp only at e1
      split at e1
      · cases e1
      · rename_i hb
        cases e1
        unfold M.big at hb
        simp only [Bool.or_eq_true,decide_eq_true_eq,not_or] at hb
        refine ⟨m,st,τ,[.int k],st',R0,S0,?_,fun xs m1 H1 b1 t1 R1 i1=>?_⟩
        · show (((M.rn fns dl n).ev τ st a).bind fun p=>(some (([] : List D),p.2)).bind fun q=>some (p.1::q.1,q.2)) = _
          rw [e2]; rfl
        · obtain ⟨x,rfl,ix⟩:=i1.one
          cases ix.int
          exact ⟨k,rfl,by omega,by omega,q m1 H1 _ b1 t1 R1 rfl⟩
    | _=>cases e1
  | @rng2 _ _ a b pa pb p0 pos hg ha hb =>
    refine (pi_range2 (G.gl hg) G.mo.range (args_ok A G (.cons ha (.cons hb .nil))) (by rw [ha.star,hb.star]; rfl) (by rw [hb.star]; rfl)).imp fun σ H R q=>?_
    obtain ⟨m,st,τ,s,st',R0,S0,e1,q⟩:=q
    have e1 : (((M.rn fns dl n).ev τ st a).bind fun p=>((M.rn fns dl n).ev τ p.2 b).bind fun q=>match p.1,q.1 with
      | .int i,.int j=>if M.big i || M.big j then none else some (Src.rng i (j - i).toNat,q.2)
      | _,_=>none) = some (s,st'):=e1
    obtain ⟨d,s1,e2,e1⟩:=bindD e1
    obtain ⟨d',s2,e3,e1⟩:=bindD e1
    dsimp only at e1
    split at e1
    · rename_i i j _
      split at e1
      · cases e1
      · rename_i hb
        cases e1
        unfold M.big at hb
        simp only [Bool.or_eq_true,decide_eq_true_eq,not_or] at hb
        refine ⟨m,st,τ,[.int i,.int j],st',R0,S0,?_,fun xs m1 H1 b1 t1 R1 i1=>?_⟩
        · show (((M.rn fns dl n).ev τ st a).bind fun p=>(((M.rn fns dl n).ev τ p.2 b).bind fun p=>(some (([] : List D),p.2)).bind fun q=>some (p.1::q.1,q.2)).bind fun q=>some (p.1::q.1,q.2)) = _
          rw [e2]
          show (((M.rn fns dl n).ev τ s1 b).bind fun p=>(some (([] : List D),p.2)).bind fun q=>some (p.1::q.1,q.2)).bind _ = _
          rw [e3]; rfl
        · obtain ⟨x,y,rfl,ix,iy⟩:=i1.two
          cases ix.int
          cases iy.int
          exact ⟨i,j,rfl,⟨by omega,by omega,by omega,by omega⟩,q m1 H1 _ b1 t1 R1 rfl⟩
    · cases e1
  | @rng3 _ _ a b g pa pb pg p0 pos hg ha hb hgg =>
    refine (pi_range3 (G.gl hg) G.mo.range (args_ok A G (.cons ha (.cons hb (.cons hgg .nil)))) (by rw [ha.star,hb.star,hgg.star]; rfl) (by rw [hb.star,hgg.star]; rfl)).imp fun σ H R q=>?_
    obtain ⟨m,st,τ,s,st',R0,S0,e1,q⟩:=q
    have e1 : (((M.rn fns dl n).ev τ st a).bind fun p=>((M.rn fns dl n).ev τ p.2 b).bind fun q=>((M.rn fns dl n).ev τ q.2 g).bind fun u=>match p.1,q.1,u.1 with
      | .int i,.int j,.int k=>if M.big i || M.big j || !(decide (0 < k) && decide (k < 1000)) then none else some (Src.rgs i k (if i < j then (j - i - 1) / k + 1 else 0).toNat,u.2)
      | _,_,_=>none) = some (s,st'):=e1
    obtain ⟨d,s1,e2,e1⟩:=bindD e1
    obtain ⟨d',s2,e3,e1⟩:=bindD e1
    obtain ⟨d'',s3,e4,e1⟩:=bindD e1
    dsimp only at e1
    split at e1
    · rename_i i j k _ _
      split at e1
      · cases e1
      · rename_i hb
        cases e1
        unfold M.big at hb
        simp only [Bool.or_eq_true,decide_eq_true_eq,not_or,Bool.not_eq_true',Bool.not_eq_false,Bool.and_eq_true] at hb
        refine ⟨m,st,τ,[.int i,.int j,.int k],st',R0,S0,?_,fun xs m1 H1 b1 t1 R1 i1=>?_⟩
        · show M.evs ((M.rn fns dl n).ev τ) [a,b,g] st = _
          simp only [M.evs,e2,e3,e4,Option.bind_some]
        · obtain ⟨x,r,rfl,ix,i1⟩:=i1.cons
          obtain ⟨y,z,rfl,iy,iz⟩:=i1.two
          cases ix.int
          cases iy.int
          cases iz.int
          exact ⟨i,j,k,rfl,⟨by omega,by omega,by omega,by omega,by omega,by omega⟩,q m1 H1 _ b1 t1 R1 rfl⟩
    · cases e1
  | @zip _ ts k tp a b pa pb p0 pos hg ha hb =>
    refine (pi_zip (G.gl hg) G.mo.zip (args_ok A G (.cons ha (.cons hb .nil))) (by rw [ha.star,hb.star]; rfl) (by rw [hb.star]; rfl)).imp fun σ H R q=>?_
    obtain ⟨m,st,τ,s,st',R0,S0,e1,q⟩:=q
    have e1 : (((M.rn fns dl n).ev τ st a).bind fun p=>((M.rn fns dl n).ev τ p.2 b).bind fun q=>(M.rowAt q.2 p.1).bind fun _=>(M.rowAt q.2 q.1).map fun _=>(Src.zip p.1 q.1,q.2)) = some (s,st'):=e1
    obtain ⟨d,s1,e2,e1⟩:=bindD e1
    obtain ⟨d',s2,e3,e1⟩:=bindD e1
    obtain ⟨ds,e4,e1⟩:=bindO e1
    obtain ⟨es,e5,e6⟩:=mapD e1
    cases e6
    refine ⟨m,st,τ,[d,d'],s2,R0,S0,?_,fun xs m1 H1 b1 t1 R1 i1=>?_⟩
    · show (((M.rn fns dl n).ev τ st a).bind fun p=>(((M.rn fns dl n).ev τ p.2 b).bind fun p=>(some (([] : List D),p.2)).bind fun q=>some (p.1::q.1,q.2)).bind fun q=>some (p.1::q.1,q.2)) = _
      rw [e2]
      show (((M.rn fns dl n).ev τ s1 b).bind fun p=>(some (([] : List D),p.2)).bind fun q=>some (p.1::q.1,q.2)).bind _ = _
      rw [e3]; rfl
    · obtain ⟨x,y,rfl,ix,iy⟩:=i1.two
      obtain ⟨k1,a1,rfl,h1,w1⟩:=isRow_of ix R1 e4
      obtain ⟨k2,a2,rfl,h2,w2⟩:=isRow_of iy R1 e5
      exact ⟨k1,k2,a1,a2,rfl,w1,w2,q m1 H1 _ b1 t1 R1 ⟨k1,k2,a1,a2,rfl,h1,h2⟩⟩
  | @seq _ _ e p he =>
    refine seq he fun τ st=>?_
    cases he <;> rfl
theorem po_ok (A : AllOk fns dl n) (G : Good fns dl c X) {o : Option E} {p : Option Expr} (h : CkO c o p) : PO X p (fun σ H Q=>∃ m st τ l st',Rel X.K m st H∧SlotOk X.K m H τ σ∧M.part (M.rn fns dl n) τ st o = some (l,st')∧∀ m' H',Sub m m'→Tr H H'→Rel X.K m' st' H'→Q l H'):=by
  cases h with
  | none =>
    intro pins s σ H Q I q
    obtain ⟨m,st,τ,l,st',R0,S0,e,k⟩:=q
    cases e
    exact po_none pins s σ H Q I (k m H (Sub.refl m) (Tr.refl H) R0)
  | @some _ e p h =>
    intro pins s σ H Q I q
    obtain ⟨m,st,τ,l,st',R0,S0,e0,k⟩:=q
    have e0 : (((M.rn fns dl n).ev τ st e).bind fun p=>match p.1 with
      | .int i=>some (some i,p.2)
      | _=>none) = some (l,st'):=e0
    obtain ⟨d,s1,e1,e2⟩:=bindD e0
    cases d with
    | int i =>
      cases e2
      exact po_some (A.e c X G e p h) pins s σ H Q I ⟨m,st,τ,.int i,s1,R0,S0,e1,fun v m' H' b t R1 iv=>⟨i,iv.int,k m' H' b t R1⟩⟩
    | _=>cases e2
def gIs : List Nat→TGs
  | []=>gNil
  | i::is=>gCons (gName i) (gIs is)
def gT (K : PySem.W.Frag) : T→TG
  | .var i=>gName i
  | .tup is=>gTup K is.length (gIs is)
theorem gIs_of {K : PySem.W.Frag} {m : List Addr} {H : Hp} {Q : L2.St→Hp→Prop} : ∀ {is : List Nat} {ds : List D} {xs : List V} {τ τ' : Sl} {σ : L2.St},IsDs K m H ds xs→SlotOk K m H τ σ→M.setIs is ds τ = some τ'→(∀ σ',SlotOk K m H τ' σ'→Q σ' H)→gIs is xs σ H Q
  | [],[],xs,τ,τ',σ,ix,S0,e,k=>by
    cases e
    exact ⟨ix.nil,k σ S0⟩
  | i::is,d::ds,xs,τ,τ',σ,ix,S0,e,k=>by
    obtain ⟨x,r,rfl,q,t⟩:=ix.cons
    unfold M.setIs at e
    split at e
    · exact ⟨x,r,rfl,gIs_of t (S0.put q) e k⟩
    · cases e
  | [],_::_,_,_,_,_,_,_,e,_=>by cases e
  | _::_,[],_,_,_,_,_,_,e,_=>by cases e
theorem setIs_len : ∀ {is : List Nat} {ds : List D} {τ τ' : Sl},M.setIs is ds τ = some τ'→is.length = ds.length
  | [],[],_,_,_=>rfl
  | i::is,d::ds,τ,τ',e=>by
    unfold M.setIs at e
    split at e
    · rw [List.length_cons,List.length_cons,setIs_len e]
    · cases e
  | [],_::_,_,_,e=>by cases e
  | _::_,[],_,_,e=>by cases e
theorem gT_of {K : PySem.W.Frag} {m : List Addr} {H : Hp} {Q : L2.St→Hp→Prop} {t : T} {d : D} {v : V} {τ τ' : Sl} {σ : L2.St} (iv : IsD K m H d v) (S0 : SlotOk K m H τ σ) (e : M.setT t d τ = some τ') (k : ∀ σ',SlotOk K m H τ' σ'→Q σ' H) : gT K t v σ H Q:=by
  cases t with
  | var i =>
    have e : (if i < τ.length then some (τ.set i (some d)) else none) = some τ':=e
    split at e
    · cases e
      exact k _ (S0.put iv)
    · cases e
  | tup is =>
    cases d with
    | tup ds =>
      obtain ⟨a,xs,rfl,hq,ix⟩:=iv.tup
      have e : M.setIs is ds τ = some τ':=e
      exact ⟨a,xs,rfl,hq,by rw [← ix.length,setIs_len e],gIs_of ix S0 e k⟩
    | _=>cases e
theorem var_of (G : Good fns dl c X) {i : Nat} {x : Str} (h : c.N[i]? = some x) : X.N[i]? = some x:=by rw [G.N]; exact h
theorem boot_all' : bootBuiltins ("all" : Str) = some (.builtin "all"):=by decide +kernel
theorem boot_int' : bootBuiltins ("int" : Str) = some (.type "int"):=by decide +kernel
theorem boot_bool' : bootBuiltins ("bool" : Str) = some (.type "bool"):=by decide +kernel
theorem boot_str' : bootBuiltins ("str" : Str) = some (.type "str"):=by decide +kernel
theorem boot_isi' : bootBuiltins ("isinstance" : Str) = some (.builtin "isinstance"):=by decide +kernel
theorem boot_sorted' : bootBuiltins ("sorted" : Str) = some (.builtin "sorted"):=by decide +kernel
theorem boot_len' : bootBuiltins ("len" : Str) = some (.builtin "len"):=by decide +kernel
theorem boot_min' : bootBuiltins ("min" : Str) = some (.builtin "min"):=by decide +kernel
theorem boot_max' : bootBuiltins ("max" : Str) = some (.builtin "max"):=by decide +kernel
theorem boot_list' : bootBuiltins ("list" : Str) = some (.type "list"):=by decide +kernel
theorem boot_tuple' : bootBuiltins ("tuple" : Str) = some (.type "tuple"):=by decide +kernel
theorem ty_ok (G : Good fns dl c X) {t : M.Ty} {pos : Pos} (ht : t ≠ .non) (hg : c.sc.names.lookup (Str.ofString t.name) = some .globalImplicit) : PE X (.Name (Str.ofString t.name) pos) (tC (.ty t.name)):=by
  cases t with
  | non=>exact absurd rfl ht
  | bl=>exact pe_bltn (G.gl hg) G.mo.bool boot_bool' rfl (by decide) (by decide)
  | int=>exact pe_bltn (G.gl hg) G.mo.int boot_int' rfl (by decide) (by decide)
  | str=>exact pe_bltn (G.gl hg) G.mo.str boot_str' rfl (by decide) (by decide)
  | tup=>exact pe_bltn (G.gl hg) G.mo.tuple boot_tuple' rfl (by decide) (by decide)
  | lst=>exact pe_bltn (G.gl hg) G.mo.list boot_list' rfl (by decide) (by decide)
def tCs : List V→TA
  | []=>tNil
  | v::vs=>tCons (tC v) (tCs vs)
theorem tCs_end : ∀ (vs : List V) (σ : L2.St) (H : Hp) (Q : List V→Hp→Prop),Q vs H→tCs vs σ H Q
  | [],_,_,_,h=>h
  | v::vs,σ,H,Q,h=>tCs_end vs σ H (fun xs H2=>Q (v::xs) H2) h
theorem tys_ok (G : Good fns dl c X) : ∀ {ts : List M.Ty} {ps : List Expr},CkTys c ts ps→PA X ps (tCs (ts.map fun t=>V.ty t.name))∧∀ t ∈ ts,t ≠ .non
  | _,_,.nil=>⟨pa_nil,fun _ h=>nomatch h⟩
  | _,_,.cons ht hg h=>by
    obtain ⟨h1,h2⟩:=tys_ok G h
    refine ⟨pa_cons (ty_ok G ht hg) h1 rfl,fun t hm=>?_⟩
    rcases List.mem_cons.mp hm with z | z
    · rw [z]; exact ht
    · exact h2 t z
end
end MS
end
section
set_option linter.all false
set_option Elab.async false
set_option maxRecDepth 100000
set_option maxHeartbeats 4000000
namespace MS
open PySem PySem.Spec PyProof.Rows L2
open M (D Cell Store Sl E S T Src Fn Out R)
section
variable {fns : List Fn} {dl n : Nat} {c : Ctx} {X : Cx}
theorem un_negD : UnR X (unaryOp .USub) (rU1 X.K fun st d=>match d with | .int i=>some (.int (-i),st) | _=>none):=by
  intro pins s σ H x v Q I rx h
  obtain ⟨m,st,a,d,st',R0,i1,e,q⟩:=h
  cases a with
  | int i =>
    cases e
    exact un_neg pins s σ H x v Q I rx ⟨i,i1.int,q.here R0 (mkInt _)⟩
  | _=>cases e
theorem comp_scope (G : Good fns dl c X) {N : List Str} {sr : List (Option Nat)} {scope : Scope} (hk : scope.kind = .function) (hcell : ∀ y ∈ scope.names,y.2 ≠ .cell) (hfree : ∀ y ∈ scope.names,y.2 = .free→c.sc.names.lookup y.1 = some .cell∨c.sc.names.lookup y.1 = some .free)
    (hloc : ∀ y ∈ scope.names,y.2 = .local→scope.names.lookup y.1 = some .local) (hlen : sr.length = N.length) (hsrc : ∀ (j i : Nat),sr[j]? = some (some i)→∃ x,N[j]? = some x∧c.N[i]? = some x∧scope.names.lookup x = some .free) : CompScope X N sr scope :=
  ⟨hk,hcell,fun y hy hf=>by
    have:=hfree y hy hf
    show X.env.scope.names.lookup y.1 = _∨X.env.scope.names.lookup y.1 = _
    rw [G.sc]; exact this,hloc,hlen,fun j i h=>by
    obtain ⟨x,a,b,d⟩:=hsrc j i h
    exact ⟨x,a,var_of G b,d⟩⟩
theorem inner_ok {K : PySem.W.Frag} {m : List Addr} {H : Hp} {τ : Sl} {σ : L2.St} (sr : List (Option Nat)) (h : SlotOk K m H τ σ) : SlotOk K m H (M.inner sr τ) (innerS sr σ):=by
  refine ⟨by unfold M.inner innerS; rw [List.length_map,List.length_map],fun j d e=>?_⟩
  unfold M.inner at e
  rw [List.getElem?_map] at e
  unfold innerS
  rw [List.getElem?_map]
  cases q : sr[j]? with
  | none=>rw [q] at e; cases e
  | some o =>
    rw [q] at e
    cases o with
    | none=>cases e
    | some i =>
      have hi : τ[i]? = some (some d):=by
        cases z : τ[i]? with
        | none=>simp [z] at e
        | some w =>
          cases w with
          | none=>simp [z] at e
          | some w=>simpa [z] using e
      obtain ⟨v,a,b⟩:=h.at_ i d hi
      refine ⟨v,?_,b⟩
      simp [a]
theorem tD_comp {K : PySem.W.Frag} {r : R} {t : T} {it elt : E} {q : Option E} {sr : List (Option Nat)} {tt : TT} {σ : L2.St} {H : Hp} {Q : VK}
    (htt : ∀ σ H (Q : Bool→Hp→Prop),(match q with
      | none=>Q true H
      | some c=>tTs K (fun τ st=>r.tst τ st c) σ H Q)→tt σ H Q)
    (h : tD K (fun τ st=>M.stepEv r τ st (.comp t it q elt sr)) σ H Q) :
    tComp sr (tI K fun τ st=>M.src r τ st it) (gT K t) tt (tD K fun τ st=>r.ev τ st elt) σ H Q:=by
  obtain ⟨m,st,τ,d,st',R0,S0,e,post⟩:=h
  have e : ((M.src r τ st it).bind fun p=>(M.loopC p.1 (M.turnC r t q elt) (p.1.size p.2 + 1) 0 [] (M.inner sr τ) p.2).map fun q=>M.alloc q.2 (.lst true q.1)) = some (d,st'):=e
  obtain ⟨p,e1,e⟩:=bindO e
  obtain ⟨res,e2,e3⟩:=mapD e
  refine ⟨m,st,τ,p.1,p.2,R0,S0,e1,fun m1 H1 J b1 t1 R1 hJ=>?_⟩
  refine ⟨fun i' k acc σ' H'=>∃ m2 st2 τ2 accD,Sub m1 m2∧Tr H1 H'∧Rel K m2 st2 H'∧SlotOk K m2 H' τ2 σ'∧IsDs K m2 H' accD acc∧M.loopC p.1 (M.turnC r t q elt) k i' accD τ2 st2 = some res,
    ⟨_,m1,p.2,M.inner sr τ,[],Sub.refl _,Tr.refl _,R1,inner_ok sr (S0.mono b1 t1),mkNil,e2⟩,?_⟩
  rintro j k acc σ' H' ⟨m2,st2,τ2,accD,b2,t2,R2,S2,ia,e4⟩
  cases k with
  | zero=>cases e4
  | succ k =>
    have e4 : (p.1.at st2 j).bind (fun o=>match o with
      | none=>if M.lim < accD.length then none else some (accD,st2)
      | some d=>if M.lim ≤ accD.length then none else (M.turnC r t q elt τ2 st2 d).bind fun z=>M.loopC p.1 (M.turnC r t q elt) k (j + 1) (match z.1 with | some x=>accD++[x] | none=>accD) z.2.1 z.2.2) = some res:=e4
    obtain ⟨o,e5,e4⟩:=bindO e4
    have l1:=ia.length
    have l2:=lim_eq
    cases o with
    | none =>
      dsimp only at e4
      split at e4
      · cases e4
      · rename_i hl
        cases e4
        refine .inl ⟨(hJ.mono b2 t2).done R2 e5,by omega,fun pp hp=>?_⟩
        cases e3
        exact post _ (m2++[pp]) _ (b1.trans (b2.trans (Sub.app _ _))) (t1.trans (t2.trans (Tr.of_same (same_new hp)))) (R2.new hp ia) R2.newLoc
    | some d' =>
      dsimp only at e4
      split at e4
      · cases e4
      · rename_i hl
        obtain ⟨hgo,hy⟩:=(hJ.mono b2 t2).next R2 e5
        refine .inr ⟨hgo,by omega,fun x H2 hyl=>?_⟩
        obtain ⟨sm,ix⟩:=hy x H2 hyl
        have t2:=t2.trans (Tr.of_same sm)
        have R2:=R2.same sm
        have S2:=S2.mono (Sub.refl _) (Tr.of_same sm)
        have ia:=isDs_mono (Sub.refl _) (Tr.of_same sm) _ _ ia
        obtain ⟨z,e6,e4⟩:=bindO e4
        unfold M.turnC at e6
        obtain ⟨τ3,e7,e6⟩:=bindO e6
        refine gT_of ix S2 e7 fun σ3 S3=>?_
        · refine htt _ _ _ ?_
          cases q with
          | none =>
            dsimp only at e6 ⊢
            obtain ⟨y,e8,e9⟩:=mapD e6
            cases e9
            rw [if_pos rfl]
            refine ⟨m2,st2,_,y.1,y.2,R2,S3,e8,fun v m3 H3 b3 t3 R3 i3=>⟨k,Nat.lt_succ_self k,m3,y.2,_,accD++[y.1],b2.trans b3,t2.trans t3,R3,S3.mono b3 t3,(isDs_mono b3 t3 _ _ ia).append (mkCons i3 mkNil),e4⟩⟩
          | some cq =>
            dsimp only at e6 ⊢
            obtain ⟨bb,e8,e6⟩:=bindO e6
            refine ⟨m2,st2,_,bb.1,bb.2,R2,S3,e8,fun m3 H3 b3 t3 R3=>?_⟩
            cases hb : bb.1 with
            | true =>
              rw [hb,if_pos rfl] at e6
              rw [if_pos rfl]
              obtain ⟨y,e9,e10⟩:=mapD e6
              cases e10
              refine ⟨m3,bb.2,_,y.1,y.2,R3,S3.mono b3 t3,e9,fun v m4 H4 b4 t4 R4 i4=>⟨k,Nat.lt_succ_self k,m4,y.2,_,accD++[y.1],b2.trans (b3.trans b4),t2.trans (t3.trans t4),R4,S3.mono (b3.trans b4) (t3.trans t4),(isDs_mono (b3.trans b4) (t3.trans t4) _ _ ia).append (mkCons i4 mkNil),e4⟩⟩
            | false =>
              rw [hb,if_neg Bool.false_ne_true] at e6
              cases e6
              rw [if_neg Bool.false_ne_true]
              exact ⟨k,Nat.lt_succ_self k,m3,bb.2,_,accD,b2.trans b3,t2.trans t3,R3,S3.mono b3 t3,isDs_mono b3 t3 _ _ ia,e4⟩
theorem targets_ok (G : Good fns dl c X) : ∀ {is : List Nat} {es : List Expr},CkTs c is es→(∀ i ∈ is,∀ x,c.N[i]? = some x→X.fn x = true∨c.sc.names.lookup x = some .local)→PGs X es (gIs is)∧(assignEach es X.env).length = is.length∧(assignEach es X.env).findIdx? (·.1) = none
  | _,_,.nil,_=>⟨pgs_nil,rfl,rfl⟩
  | _,_,.cons (i:=i) (x:=x) (pos:=pos) (is:=is) (es:=es) hN hl h,hf=>by
    obtain ⟨h1,h2,h3⟩:=targets_ok G h fun j hj=>hf j (List.mem_cons_of_mem _ hj)
    have hg : PG X (.Name x pos) (gName i):=pg_name (by rw [G.N]; exact G.nd) (var_of G hN) (by show X.env.scope.names.lookup x = _∨_ = _; rw [G.sc]; exact hl) (by rw [G.sc]; exact hf i List.mem_cons_self x hN)
    refine ⟨pgs_cons hg h1 rfl,?_,?_⟩
    · show (assignEach es X.env).length + 1 = is.length + 1
      rw [h2]
    · show List.findIdx? (·.1) ((false,assign (.Name x pos) X.env)::assignEach es X.env) = none
      rw [List.findIdx?_cons,h3]
      rfl
theorem target_ok (G : Good fns dl c X) {t : T} {tg : Expr} (h : CkT c t tg) (hf : ∀ i ∈ t.slots,∀ x,c.N[i]? = some x→X.fn x = true∨c.sc.names.lookup x = some .local) : PG X tg (gT X.K t):=by
  cases h with
  | @var i x pos hN hl=>exact pg_name (by rw [G.N]; exact G.nd) (var_of G hN) (by show X.env.scope.names.lookup x = _∨_ = _; rw [G.sc]; exact hl) (by rw [G.sc]; exact hf i (by simp [T.slots]) x hN)
  | @tup is es k pos h =>
    obtain ⟨h1,h2,h3⟩:=targets_ok G h hf
    exact pg_tup G.calm h1 h2 h3
def trsOf (r : R) (K : PySem.W.Frag) : List E→List (TE × TE)
  | k::v::es=>(tD K fun τ st=>r.ev τ st k,tD K fun τ st=>r.ev τ st v)::trsOf r K es
  | _=>[]
def twos : List V→List (V × V)
  | x::y::r=>(x,y)::twos r
  | _=>[]
theorem pairs_pps (A : AllOk fns dl n) (G : Good fns dl c X) {pos : Pos} : ∀ {es : List E} {ks : List (Option Expr)} {vs : List Expr},CkP c es ks vs→PPs X pos ks vs (trsOf (M.rn fns dl n) X.K es)∧ks.all (·.isSome) = true∧ks.length = vs.length
  | _,_,_,.nil=>⟨pps_nil,rfl,rfl⟩
  | _,_,_,.cons hk hv t=>by
    obtain ⟨h1,h2,h3⟩:=pairs_pps A G (pos:=pos) t
    refine ⟨pps_cons (A.e c X G _ _ hk) (A.e c X G _ _ hv) h1,?_,?_⟩
    · rw [List.all_cons,h2]; rfl
    · rw [List.length_cons,List.length_cons,h3]
theorem pairs_run {r : R} {K : PySem.W.Frag} : ∀ {es : List E} {ks : List (Option Expr)} {vs : List Expr} {c : Ctx} {m : List Addr} {st st' : Store} {H : Hp} {τ : Sl} {σ : L2.St} {ds : List D} {Q : List (V × V)→Hp→Prop},CkP c es ks vs→Rel K m st H→SlotOk K m H τ σ→M.evs (r.ev τ) es st = some (ds,st') →
    (∀ xs m' H',Sub m m'→Tr H H'→Rel K m' st' H'→IsDs K m' H' ds xs→Q (twos xs) H')→tPairs (trsOf r K es) σ H Q
  | _,_,_,c,m,st,st',H,τ,σ,ds,Q,.nil,R0,S0,e,q=>by
    cases e
    exact q [] m H (Sub.refl m) (Tr.refl H) R0 mkNil
  | _,_,_,c,m,st,st',H,τ,σ,ds,Q,.cons (k:=k) (v:=v) (es:=es) hk hv t,R0,S0,e,q=>by
    have e : ((r.ev τ st k).bind fun p=>((r.ev τ p.2 v).bind fun p'=>(M.evs (r.ev τ) es p'.2).bind fun q=>some (p'.1::q.1,q.2)).bind fun q=>some (p.1::q.1,q.2)) = some (ds,st'):=e
    obtain ⟨d1,s1,e1,e⟩:=bindD e
    obtain ⟨w,e2,e⟩:=bindO e
    obtain ⟨d2,s2,e3,e2⟩:=bindD e2
    obtain ⟨u,e4,e2⟩:=bindO e2
    cases e2
    cases e
    refine ⟨m,st,τ,d1,s1,R0,S0,e1,fun x m1 H1 b1 t1 R1 i1=>⟨m1,s1,τ,d2,s2,R1,S0.mono b1 t1,e3,fun y m2 H2 b2 t2 R2 i2=>?_⟩⟩
    refine pairs_run t R2 (S0.mono (b1.trans b2) (t1.trans t2)) e4 fun xs m3 H3 b3 t3 R3 ix=>?_
    exact q (x::y::xs) m3 H3 (b1.trans (b2.trans b3)) (t1.trans (t2.trans t3)) R3 (mkCons (isD_mono (b2.trans b3) (t2.trans t3) _ _ i1) (mkCons (isD_mono b3 t3 _ _ i2) ix))
theorem pairs_kv {K : PySem.W.Frag} {m : List Addr} {H : Hp} : ∀ {ds : List D} {xs : List V} {kvs : List (D × D)},IsDs K m H ds xs→M.pairUp ds = some kvs→∃ ys : List (Key × V),IsKV K m H kvs ys∧twos xs = ys.map fun kv=>(kV kv.1,kv.2)
  | [],xs,kvs,ix,e=>by
    cases e
    rw [ix.nil]
    exact ⟨[],rfl,rfl⟩
  | [d],xs,kvs,ix,e=>by cases e
  | d::d'::ds,xs,kvs,ix,e=>by
    have e : (if M.isKey d then (M.pairUp ds).map ((d,d')::·) else none) = some kvs:=e
    split at e
    · rename_i hk
      obtain ⟨kr,e1,e2⟩:=mapD e
      subst e2
      obtain ⟨x,xr,rfl,i1,i2⟩:=ix.cons
      obtain ⟨y,yr,rfl,i3,i4⟩:=i2.cons
      obtain ⟨k,hk1⟩:=key_of hk
      have hx:=key_V hk1 i1
      subst hx
      obtain ⟨ys,h1,h2⟩:=pairs_kv i4 e1
      refine ⟨(k,y)::ys,⟨k,y,ys,rfl,hk1,i3,h1⟩,?_⟩
      show (kV k,y)::twos yr = _
      rw [h2]
      rfl
    · cases e
theorem e_ok (A : AllOk fns dl n) (G' : Good fns dl c X) {e : E} {p : Expr} (h : CkE c e p) : PE X p (tD X.K fun τ st=>M.stepEv (M.rn fns dl n) τ st e):=by
  have G:=G'
  have hu : X.A.units + 64 < cLine:=G'.room.units
  cases h with
  | @var _ i x pos hN hv hd hcd =>
    refine (pe_var (var_of G hN) (by rw [G.sc]; exact hv) hd hcd).imp fun σ H Q h=>?_
    obtain ⟨m,st,τ,d,st',R0,S0,e,q⟩:=h
    simp only [M.stepEv] at e
    split at e
    · rename_i d' hd'
      cases e
      obtain ⟨v,a,b⟩:=S0.at_ i d hd'
      exact ⟨v,a,q.here R0 b⟩
    · cases e
  | int=>exact pe_int.imp fun σ H Q ⟨m,st,τ,d,st',R0,S0,e,q⟩=>by cases e; exact q.here R0 (mkInt _)
  | bl=>exact pe_bl.imp fun σ H Q ⟨m,st,τ,d,st',R0,S0,e,q⟩=>by cases e; exact q.here R0 (mkBl _)
  | non=>exact pe_non.imp fun σ H Q ⟨m,st,τ,d,st',R0,S0,e,q⟩=>by cases e; exact q.here R0 mkNon
  | str=>exact pe_str.imp fun σ H Q ⟨m,st,τ,d,st',R0,S0,e,q⟩=>by cases e; exact q.here R0 (mkStr _)
  | @glo _ x d pos hg hm hd =>
    obtain ⟨u,v,h1,h2,h3⟩:=G.mo.glo x d hm
    exact (pe_glob (G.gl hg) h1 h2 hd).imp fun σ H Q ⟨m,st,τ,d,st',R0,S0,e,q⟩=>by cases e; exact q.here R0 (h3 m H)
  | @bin _ op a b pa pb pos ha hb =>
    exact (pe_op (op_binD op) (A.e c X G a pa ha) (A.e c X G b pb hb)).imp fun σ H Q h=>tD_bin (fa:=fun τ st=>(M.rn fns dl n).ev τ st a) (fb:=fun τ st=>(M.rn fns dl n).ev τ st b) (g:=fun st x y=>M.binop st op x y) h
  | @neg _ a pa pos ha =>
    exact (pe_un un_negD (A.e c X G a pa ha)).imp fun σ H Q h=>tD_un (fa:=fun τ st=>(M.rn fns dl n).ev τ st a) h
  | @not _ a pa pos ha =>
    refine (pe_not (A.e c X G a pa ha)).imp fun σ H Q h=>?_
    obtain ⟨m,st,τ,d,st',R0,S0,e,q⟩:=h
    obtain ⟨d1,s1,e1,e⟩:=bindD e
    refine ⟨m,st,τ,d1,s1,R0,S0,e1,fun v m1 H1 b1 t1 R1 i1=>?_⟩
    cases d1 with
    | bl k =>
      cases e
      exact ⟨k,i1.bl,q _ m1 H1 b1 t1 R1 (mkBl _)⟩
    | _=>cases e
  | @cmp _ op a b pa pb pos ha hb hm =>
    exact (pe_cmpR (op_cmpD hu op) (A.e c X G a pa ha) (A.e c X G b pb hb) hm).imp fun σ H Q h=>tD_bin (fa:=fun τ st=>(M.rn fns dl n).ev τ st a) (fb:=fun τ st=>(M.rn fns dl n).ev τ st b) (g:=fun st x y=>(M.cmpD st op x y).map fun k=>(.bl k,st)) h
  | @cmp2 _ op op' a b d pa pb pd pos ha hb hd hm =>
    refine (pe_chain (op_cmpD hu op) (op_cmpD hu op') (A.e c X G a pa ha) (A.e c X G b pb hb) (A.e c X G d pd hd) hm).imp fun σ H Q h=>?_
    obtain ⟨m,st,τ,dd,st',R0,S0,e,q⟩:=h
    obtain ⟨d1,s1,e1,e⟩:=bindD e
    obtain ⟨d2,s2,e2,e⟩:=bindD e
    obtain ⟨k,e3,e⟩:=bindO e
    refine ⟨m,st,τ,d1,s1,R0,S0,e1,fun x m1 H1 b1 t1 R1 i1=>⟨m1,s1,τ,d2,s2,R1,S0.mono b1 t1,e2,fun y m2 H2 b2 t2 R2 i2 =>
      ⟨m2,s2,d1,d2,.bl k,s2,R2,isD_mono b2 t2 _ _ i1,i2,by show Option.map _ (M.cmpD s2 op d1 d2) = _; rw [e3]; rfl,fun z m3 H3 b3 t3 R3 i3=>⟨k,i3.bl,?_⟩⟩⟩⟩
    cases k with
    | true =>
      rw [if_pos rfl] at e ⊢
      obtain ⟨d3,s3,e4,e⟩:=bindD e
      exact ⟨m3,s2,τ,d3,s3,R3,S0.mono (b1.trans (b2.trans b3)) (t1.trans (t2.trans t3)),e4,fun y' m4 H4 b4 t4 R4 i4 =>
        ⟨m4,s3,d2,d3,dd,st',R4,isD_mono (b3.trans b4) (t3.trans t4) _ _ i2,i4,e,q.mono (b1.trans (b2.trans (b3.trans b4))) (t1.trans (t2.trans (t3.trans t4)))⟩⟩
    | false =>
      rw [if_neg Bool.false_ne_true] at e ⊢
      cases e
      exact q _ m3 H3 (b1.trans (b2.trans b3)) (t1.trans (t2.trans t3)) R3 (mkBl _)
  | @and2 _ a b pa pb pos ha hb =>
    refine (pe_and (A.e c X G a pa ha) (pe_one (A.e c X G b pb hb))).imp fun σ H Q h=>?_
    obtain ⟨m,st,τ,d,st',R0,S0,e,q⟩:=h
    obtain ⟨d1,s1,e1,e⟩:=bindD e
    refine ⟨m,st,τ,d1,s1,R0,S0,e1,fun v m1 H1 b1 t1 R1 i1=>?_⟩
    cases d1 with
    | bl k =>
      cases k with
      | true=>exact ⟨true,i1.bl,by rw [if_pos rfl]; exact ⟨m1,s1,τ,d,st',R1,S0.mono b1 t1,e,q.mono b1 t1⟩⟩
      | false=>cases e; exact ⟨false,i1.bl,by rw [if_neg Bool.false_ne_true]; exact q _ m1 H1 b1 t1 R1 (mkBl _)⟩
    | _=>cases e
  | @andN _ a b pa pb pd r pos ha hb =>
    refine (pe_and (A.e c X G a pa ha) (A.e c X G b _ hb)).imp fun σ H Q h=>?_
    obtain ⟨m,st,τ,d,st',R0,S0,e,q⟩:=h
    obtain ⟨d1,s1,e1,e⟩:=bindD e
    refine ⟨m,st,τ,d1,s1,R0,S0,e1,fun v m1 H1 b1 t1 R1 i1=>?_⟩
    cases d1 with
    | bl k =>
      cases k with
      | true=>exact ⟨true,i1.bl,by rw [if_pos rfl]; exact ⟨m1,s1,τ,d,st',R1,S0.mono b1 t1,e,q.mono b1 t1⟩⟩
      | false=>cases e; exact ⟨false,i1.bl,by rw [if_neg Bool.false_ne_true]; exact q _ m1 H1 b1 t1 R1 (mkBl _)⟩
    | _=>cases e
  | @or2 _ a b pa pb pos ha hb =>
    refine (pe_or (A.e c X G a pa ha) (pe_one (A.e c X G b pb hb))).imp fun σ H Q h=>?_
    obtain ⟨m,st,τ,d,st',R0,S0,e,q⟩:=h
    obtain ⟨d1,s1,e1,e⟩:=bindD e
    refine ⟨m,st,τ,d1,s1,R0,S0,e1,fun v m1 H1 b1 t1 R1 i1=>?_⟩
    cases d1 with
    | bl k =>
      cases k with
      | false=>exact ⟨false,i1.bl,by rw [if_neg Bool.false_ne_true]; exact ⟨m1,s1,τ,d,st',R1,S0.mono b1 t1,e,q.mono b1 t1⟩⟩
      | true=>cases e; exact ⟨true,i1.bl,by rw [if_pos rfl]; exact q _ m1 H1 b1 t1 R1 (mkBl _)⟩
    | _=>cases e
  | @orN _ a b pa pb pd r pos ha hb =>
    refine (pe_or (A.e c X G a pa ha) (A.e c X G b _ hb)).imp fun σ H Q h=>?_
    obtain ⟨m,st,τ,d,st',R0,S0,e,q⟩:=h
    obtain ⟨d1,s1,e1,e⟩:=bindD e
    refine ⟨m,st,τ,d1,s1,R0,S0,e1,fun v m1 H1 b1 t1 R1 i1=>?_⟩
    cases d1 with
    | bl k =>
      cases k with
      | false=>exact ⟨false,i1.bl,by rw [if_neg Bool.false_ne_true]; exact ⟨m1,s1,τ,d,st',R1,S0.mono b1 t1,e,q.mono b1 t1⟩⟩
      | true=>cases e; exact ⟨true,i1.bl,by rw [if_pos rfl]; exact q _ m1 H1 b1 t1 R1 (mkBl _)⟩
    | _=>cases e
  | @ite _ q a b pq pa pb pos hq ha hb =>
    refine (pe_ifExp (A.t c X G q pq hq) (A.e c X G a pa ha) (A.e c X G b pb hb)).imp fun σ H Q h=>?_
    obtain ⟨m,st,τ,d,st',R0,S0,e,post⟩:=h
    obtain ⟨bb,e1,e⟩:=bindO e
    refine ⟨m,st,τ,bb.1,bb.2,R0,S0,e1,fun m1 H1 b1 t1 R1=>?_⟩
    cases hb : bb.1 with
    | true =>
      rw [hb,if_pos rfl] at e
      rw [if_pos rfl]
      exact ⟨m1,bb.2,τ,d,st',R1,S0.mono b1 t1,e,post.mono b1 t1⟩
    | false =>
      rw [hb,if_neg Bool.false_ne_true] at e
      rw [if_neg Bool.false_ne_true]
      exact ⟨m1,bb.2,τ,d,st',R1,S0.mono b1 t1,e,post.mono b1 t1⟩
  | @tup _ es ps k pos hs =>
    refine (pe_tup (args_ok A G hs)).imp fun σ H Q h=>?_
    obtain ⟨m,st,τ,d,st',R0,S0,e,post⟩:=h
    obtain ⟨p,e1,e⟩:=bindO e
    split at e
    · cases e
    · rename_i hl
      cases e
      refine ⟨m,st,τ,p.1,p.2,R0,S0,e1,fun xs m1 H1 b1 t1 R1 ix=>?_⟩
      have l1:=ix.length
      have l2:=lim_eq
      refine ⟨by omega,fun pp hp=>?_⟩
      have sm:=same_new (o:=.tup xs) hp
      exact post _ m1 _ b1 (t1.trans (Tr.of_same sm)) (R1.same sm) (mkTup (SqT.of upd_same) (isDs_mono (Sub.refl _) (Tr.of_same sm) _ _ ix))
  | @lst _ es ps pos hs =>
    refine (pe_lst (args_ok A G hs)).imp fun σ H Q h=>?_
    obtain ⟨m,st,τ,d,st',R0,S0,e,post⟩:=h
    obtain ⟨p,e1,e⟩:=bindO e
    split at e
    · cases e
    · rename_i hl
      cases e
      refine ⟨m,st,τ,p.1,p.2,R0,S0,e1,fun xs m1 H1 b1 t1 R1 ix=>?_⟩
      have l1:=ix.length
      have l2:=lim_eq
      refine ⟨by omega,fun pp hp=>?_⟩
      exact post _ (m1++[pp]) _ (b1.trans (Sub.app _ _)) (t1.trans (Tr.of_same (same_new hp))) (R1.new hp ix) R1.newLoc
  | @idx _ a b pa pb pos ha hb hs =>
    exact (pe_ix ix_D (A.e c X G a pa ha) (A.e c X G b pb hb) hs).imp fun σ H Q h=>tD_bin (fa:=fun τ st=>(M.rn fns dl n).ev τ st a) (fb:=fun τ st=>(M.rn fns dl n).ev τ st b) (g:=fun st x y=>(M.idxD st x y).map fun d=>(d,st)) h
  | @call _ f x es p ps p0 pos hg hf hd hs =>
    obtain ⟨fa,fd,pars,hm,F,hk,hb⟩:=G'.tab f x hf
    have hp : Star p:=by cases hs with | cons h _=>exact h.star
    have ht : (backTo pos (starEach ps X.env)).any (·.1) = false:=by cases hs with | cons _ t=>exact noStars t pos X.env
    refine (pe_call F G.room (G.gl hg) hm hk hb .nil pass0 (args_ok A G hs) hd (hp _ _) ht).imp fun σ H Q h=>?_
    obtain ⟨m,st,τ,d,st',R0,S0,e,post⟩:=h
    obtain ⟨q,e1,e⟩:=bindO e
    refine ⟨m,st,τ,q.1,q.2,R0,S0,e1,fun xs m1 H1 b1 t1 R1 ix=>?_⟩
    show spN X.K fns dl f (xs++[]) H1 Q E0
    have e : (M.rn fns dl n).call f q.1 q.2 = some (d,st'):=e
    rw [M.runK_call] at e
    rw [List.append_nil]
    exact ⟨m1,q.2,q.1,d,st',R1,ix,e,post.mono b1 t1⟩
  | @bcall _ b es p ps p0 pos hg hs =>
    have hp : Star p:=by cases hs with | cons h _=>exact h.star
    have ht : (backTo pos (starEach ps X.env)).any (·.1) = false:=by cases hs with | cons _ t=>exact noStars t pos X.env
    have hA:=args_ok A G hs
    cases b with
    | len=>exact (pe_callB call_lenD (G.gl hg) G.mo.len boot_len' hA (by decide) (by decide) (hp _ _) ht).imp fun σ H Q h=>tL_call (fa:=fun τ st=>M.evs ((M.rn fns dl n).ev τ) es st) (g:=M.bLen) h
    | min=>exact (pe_callB (call_minD G.calm) (G.gl hg) G.mo.min boot_min' hA (by decide) (by decide) (hp _ _) ht).imp fun σ H Q h=>tL_call (fa:=fun τ st=>M.evs ((M.rn fns dl n).ev τ) es st) (g:=M.bMin) h
    | max=>exact (pe_callB (call_maxD G.calm) (G.gl hg) G.mo.max boot_max' hA (by decide) (by decide) (hp _ _) ht).imp fun σ H Q h=>tL_call (fa:=fun τ st=>M.evs ((M.rn fns dl n).ev τ) es st) (g:=M.bMax) h
    | tuple=>exact (pe_callTy call_tupleD (G.gl hg) G.mo.tuple boot_tuple' hA (by decide) (by decide) (hp _ _) ht).imp fun σ H Q h=>tL_call (fa:=fun τ st=>M.evs ((M.rn fns dl n).ev τ) es st) (g:=M.bTuple) h
    | list=>exact (pe_callTy call_listD (G.gl hg) G.mo.list boot_list' hA (by decide) (by decide) (hp _ _) ht).imp fun σ H Q h=>tL_call (fa:=fun τ st=>M.evs ((M.rn fns dl n).ev τ) es st) (g:=M.bList) h
    | all=>exact (pe_callB (call_allD G.calm) (G.gl hg) G.mo.all boot_all' hA (by decide) (by decide) (hp _ _) ht).imp fun σ H Q h=>tL_call (fa:=fun τ st=>M.evs ((M.rn fns dl n).ev τ) es st) (g:=M.bAll) h
    | int=>exact (pe_callTy call_intD (G.gl hg) G.mo.int boot_int' hA (by decide) (by decide) (hp _ _) ht).imp fun σ H Q h=>tL_call (fa:=fun τ st=>M.evs ((M.rn fns dl n).ev τ) es st) (g:=M.bInt) h
    | str=>exact (pe_callTy call_strD (G.gl hg) G.mo.str boot_str' hA (by decide) (by decide) (hp _ _) ht).imp fun σ H Q h=>tL_call (fa:=fun τ st=>M.evs ((M.rn fns dl n).ev τ) es st) (g:=M.bStr) h
    | sorted=>exact (pe_callB call_sortedD (G.gl hg) G.mo.sorted boot_sorted' hA (by decide) (by decide) (hp _ _) ht).imp fun σ H Q h=>tL_call (fa:=fun τ st=>M.evs ((M.rn fns dl n).ev τ) es st) (g:=M.bSorted) h
  | @isi1 _ t a pa p0 p1 pos hg ht hgt ha =>
    refine (pe_callB (call_isi1 t ht) (G.gl hg) G.mo.isinstance boot_isi' (pa_cons (A.e c X G a pa ha) (pa_cons (ty_ok G ht hgt) pa_nil rfl) (ha.star _ _)) (by decide) (by decide) (ha.star _ _) rfl).imp fun σ H Q h=>?_
    obtain ⟨m,st,τ,d,st',R0,S0,e,post⟩:=h
    obtain ⟨d1,s1,e1,e⟩:=bindD e
    obtain ⟨nm,e2,e3⟩:=mapD e
    cases e3
    refine ⟨m,st,τ,d1,s1,R0,S0,e1,fun x m1 H1 b1 t1 R1 ix=>?_⟩
    refine ⟨m1,s1,d1,nm,x,rfl,R1,ix,e2,post _ m1 H1 b1 t1 R1 ?_⟩
    have : ([t].any fun t=>M.tyIs t nm) = M.tyIs t nm:=by simp
    rw [this]
    exact mkBl _
  | @isiN _ ts a pa p0 ps k p1 pos hlen hg ht ha =>
    obtain ⟨h1,h2⟩:=tys_ok G ht
    refine (pe_callB (call_isiN ts h2) (G.gl hg) G.mo.isinstance boot_isi' (pa_cons (A.e c X G a pa ha) (pa_cons (pe_tup h1) pa_nil rfl) (ha.star _ _)) (by decide) (by decide) (ha.star _ _) rfl).imp fun σ H Q h=>?_
    obtain ⟨m,st,τ,d,st',R0,S0,e,post⟩:=h
    obtain ⟨d1,s1,e1,e⟩:=bindD e
    obtain ⟨nm,e2,e3⟩:=mapD e
    cases e3
    refine ⟨m,st,τ,d1,s1,R0,S0,e1,fun x m1 H1 b1 t1 R1 ix=>?_⟩
    refine tCs_end _ σ H1 _ ⟨?_,fun pp hp=>?_⟩
    · rw [List.length_map]
      exact Nat.le_of_lt (small1000 hlen)
    · have sm:=same_new (o:=.tup (ts.map fun t=>V.ty t.name)) hp
      exact ⟨m1,s1,d1,nm,x,pp,rfl,upd_same,R1.same sm,isD_mono (Sub.refl _) (Tr.of_same sm) _ _ ix,e2,post _ m1 _ b1 (t1.trans (Tr.of_same sm)) (R1.same sm) (mkBl _)⟩
  | @append _ a e x xp pe apos cpos ha he hl =>
    refine (pe_bm PySem.F.plainAttrs_list PySem.F.slot_list_append PySem.F.type_list_append mt_appendD (A.e c X G a _ ha) (args_ok A G (.cons he .nil)) rfl (by rw [he.star]; rfl) hl (he.star _ _) rfl).imp fun σ H Q h=>?_
    obtain ⟨m,st,τ,d,st',R0,S0,e0,post⟩:=h
    obtain ⟨d1,s1,e1,e0⟩:=bindD e0
    split at e0
    · rename_i hm
      obtain ⟨q,e2,e0⟩:=bindO e0
      refine ⟨m,st,τ,d1,s1,R0,S0,e1,fun v m1 H1 b1 t1 R1 i1=>⟨?_,m1,s1,τ,q.1,q.2,R1,S0.mono b1 t1,e2,fun xs m2 H2 b2 t2 R2 i2=>⟨m2,q.2,d1,q.1,d,st',R2,isD_mono b2 t2 _ _ i1,i2,e0,post.mono (b1.trans b2) (t1.trans t2)⟩⟩⟩
      cases d1 with
      | loc l =>
        have hm : (true && (M.seqAt s1 (.loc l)).isSome) = true:=hm
        rw [Bool.true_and] at hm
        obtain ⟨ds,hds⟩:=Option.isSome_iff_exists.mp hm
        obtain ⟨a',xs,_,rfl,hq,_⟩:=R1.seq hds i1
        exact .inl ⟨rfl,xs,hq⟩
      | lst l =>
        have hm : (true && (M.seqAt s1 (.lst l)).isSome) = true:=hm
        rw [Bool.true_and] at hm
        obtain ⟨ds,hds⟩:=Option.isSome_iff_exists.mp hm
        obtain ⟨a',xs,_,rfl,hq,_⟩:=R1.seq hds i1
        exact .inl ⟨rfl,xs,hq⟩
      | _=>cases hm
    · cases e0
  | @extend _ a e x xp pe apos cpos ha he hl =>
    refine (pe_bm PySem.F.plainAttrs_list PySem.F.slot_list_extend PySem.F.type_list_extend mt_extendD (A.e c X G a _ ha) (args_ok A G (.cons he .nil)) rfl (by rw [he.star]; rfl) hl (he.star _ _) rfl).imp fun σ H Q h=>?_
    obtain ⟨m,st,τ,d,st',R0,S0,e0,post⟩:=h
    obtain ⟨d1,s1,e1,e0⟩:=bindD e0
    split at e0
    · rename_i hm
      obtain ⟨q,e2,e0⟩:=bindO e0
      refine ⟨m,st,τ,d1,s1,R0,S0,e1,fun v m1 H1 b1 t1 R1 i1=>⟨?_,m1,s1,τ,q.1,q.2,R1,S0.mono b1 t1,e2,fun xs m2 H2 b2 t2 R2 i2=>⟨m2,q.2,d1,q.1,d,st',R2,isD_mono b2 t2 _ _ i1,i2,e0,post.mono (b1.trans b2) (t1.trans t2)⟩⟩⟩
      cases d1 with
      | loc l =>
        have hm : (true && (M.seqAt s1 (.loc l)).isSome) = true:=hm
        rw [Bool.true_and] at hm
        obtain ⟨ds,hds⟩:=Option.isSome_iff_exists.mp hm
        obtain ⟨a',xs,_,rfl,hq,_⟩:=R1.seq hds i1
        exact .inl ⟨rfl,xs,hq⟩
      | lst l =>
        have hm : (true && (M.seqAt s1 (.lst l)).isSome) = true:=hm
        rw [Bool.true_and] at hm
        obtain ⟨ds,hds⟩:=Option.isSome_iff_exists.mp hm
        obtain ⟨a',xs,_,rfl,hq,_⟩:=R1.seq hds i1
        exact .inl ⟨rfl,xs,hq⟩
      | _=>cases hm
    · cases e0
  | @index _ a e pa pe apos cpos ha he hb hl =>
    refine (pe_bm PySem.F.plainAttrs_list PySem.F.slot_list_index PySem.F.type_list_index (mt_indexD hu) (A.e c X G a _ ha) (args_ok A G (.cons he .nil)) (hb X.env) (by rw [he.star]; rfl) hl (he.star _ _) rfl).imp fun σ H Q h=>?_
    obtain ⟨m,st,τ,d,st',R0,S0,e0,post⟩:=h
    obtain ⟨d1,s1,e1,e0⟩:=bindD e0
    split at e0
    · rename_i hm
      obtain ⟨q,e2,e0⟩:=bindO e0
      refine ⟨m,st,τ,d1,s1,R0,S0,e1,fun v m1 H1 b1 t1 R1 i1=>⟨?_,m1,s1,τ,q.1,q.2,R1,S0.mono b1 t1,e2,fun xs m2 H2 b2 t2 R2 i2=>⟨m2,q.2,d1,q.1,d,st',R2,isD_mono b2 t2 _ _ i1,i2,e0,post.mono (b1.trans b2) (t1.trans t2)⟩⟩⟩
      cases d1 with
      | loc l =>
        have hm : (true && (M.seqAt s1 (.loc l)).isSome) = true:=hm
        rw [Bool.true_and] at hm
        obtain ⟨ds,hds⟩:=Option.isSome_iff_exists.mp hm
        obtain ⟨a',xs,_,rfl,hq,_⟩:=R1.seq hds i1
        exact .inl ⟨rfl,xs,hq⟩
      | lst l =>
        have hm : (true && (M.seqAt s1 (.lst l)).isSome) = true:=hm
        rw [Bool.true_and] at hm
        obtain ⟨ds,hds⟩:=Option.isSome_iff_exists.mp hm
        obtain ⟨a',xs,_,rfl,hq,_⟩:=R1.seq hds i1
        exact .inl ⟨rfl,xs,hq⟩
      | _=>cases hm
    · cases e0
  | @find _ a e pa pe apos cpos ha he hb hl =>
    refine (pe_bm PySem.F.plainAttrs_str PySem.F.slot_str_find PySem.F.type_str_find mt_findD (A.e c X G a _ ha) (args_ok A G (.cons he .nil)) (hb X.env) (by rw [he.star]; rfl) hl (he.star _ _) rfl).imp fun σ H Q h=>?_
    obtain ⟨m,st,τ,d,st',R0,S0,e0,post⟩:=h
    obtain ⟨d1,s1,e1,e0⟩:=bindD e0
    split at e0
    · rename_i hm
      obtain ⟨q,e2,e0⟩:=bindO e0
      refine ⟨m,st,τ,d1,s1,R0,S0,e1,fun v m1 H1 b1 t1 R1 i1=>⟨?_,m1,s1,τ,q.1,q.2,R1,S0.mono b1 t1,e2,fun xs m2 H2 b2 t2 R2 i2=>⟨m2,q.2,d1,q.1,d,st',R2,isD_mono b2 t2 _ _ i1,i2,e0,post.mono (b1.trans b2) (t1.trans t2)⟩⟩⟩
      cases d1 with
      | str z=>rw [i1.str]; exact rfl
      | _=>cases hm
    · cases e0
  | @join _ a e pa pe apos cpos ha he hb hl =>
    refine (pe_bm PySem.F.plainAttrs_str PySem.F.slot_str_join PySem.F.type_str_join mt_joinD (A.e c X G a _ ha) (args_ok A G (.cons he .nil)) (hb X.env) (by rw [he.star]; rfl) hl (he.star _ _) rfl).imp fun σ H Q h=>?_
    obtain ⟨m,st,τ,d,st',R0,S0,e0,post⟩:=h
    obtain ⟨d1,s1,e1,e0⟩:=bindD e0
    split at e0
    · rename_i hm
      obtain ⟨q,e2,e0⟩:=bindO e0
      refine ⟨m,st,τ,d1,s1,R0,S0,e1,fun v m1 H1 b1 t1 R1 i1=>⟨?_,m1,s1,τ,q.1,q.2,R1,S0.mono b1 t1,e2,fun xs m2 H2 b2 t2 R2 i2=>⟨m2,q.2,d1,q.1,d,st',R2,isD_mono b2 t2 _ _ i1,i2,e0,post.mono (b1.trans b2) (t1.trans t2)⟩⟩⟩
      cases d1 with
      | str z=>rw [i1.str]; exact rfl
      | _=>cases hm
    · cases e0
  | @split _ a e pa pe apos cpos ha he hb hl =>
    refine (pe_bm PySem.F.plainAttrs_str PySem.F.slot_str_split PySem.F.type_str_split mt_splitD (A.e c X G a _ ha) (args_ok A G (.cons he .nil)) (hb X.env) (by rw [he.star]; rfl) hl (he.star _ _) rfl).imp fun σ H Q h=>?_
    obtain ⟨m,st,τ,d,st',R0,S0,e0,post⟩:=h
    obtain ⟨d1,s1,e1,e0⟩:=bindD e0
    split at e0
    · rename_i hm
      obtain ⟨q,e2,e0⟩:=bindO e0
      refine ⟨m,st,τ,d1,s1,R0,S0,e1,fun v m1 H1 b1 t1 R1 i1=>⟨?_,m1,s1,τ,q.1,q.2,R1,S0.mono b1 t1,e2,fun xs m2 H2 b2 t2 R2 i2=>⟨m2,q.2,d1,q.1,d,st',R2,isD_mono b2 t2 _ _ i1,i2,e0,post.mono (b1.trans b2) (t1.trans t2)⟩⟩⟩
      cases d1 with
      | str z=>rw [i1.str]; exact rfl
      | _=>cases hm
    · cases e0
  | @gc _ a p hp hg ha=>exact (pe_gc (A.e c X G a _ ha)).imp fun _ _ _ h=>h
  | @fmt _ a pa pos ha =>
    refine (pe_fmt (A.e c X G a pa ha)).imp fun σ H Q h=>?_
    obtain ⟨m,st,τ,d,st',R0,S0,e,post⟩:=h
    obtain ⟨d1,s1,e1,e⟩:=bindD e
    obtain ⟨w,e2,e3⟩:=mapD e
    cases e3
    refine ⟨m,st,τ,d1,s1,R0,S0,e1,fun x m1 H1 b1 t1 R1 i1=>?_⟩
    have l2:=lim_eq
    cases d1 with
    | int i =>
      have e2 : (if i.natAbs.log2 < 1920 then some (D.str (Str.ofString (toString i))) else none) = some d:=e2
      split at e2
      · rename_i hi
        cases e2
        exact .inl ⟨i,i1.int,hi,post _ m1 H1 b1 t1 R1 (mkStr _)⟩
      · cases e2
    | str z =>
      have e2 : (if z.length ≤ M.lim then some (D.str z) else none) = some d:=e2
      split at e2
      · rename_i hz
        cases e2
        exact .inr ⟨z,i1.str,by omega,post _ m1 H1 b1 t1 R1 (mkStr _)⟩
      · cases e2
    | _=>cases e2
  | @fstr _ es p1 p2 ps pos hs hev =>
    have pes : ∀ {es : List E} {ps : List Expr},CkEs c es ps→PEs X ps (es.map fun e=>tD X.K fun τ st=>(M.rn fns dl n).ev τ st e):=by
      intro es ps h
      induction es generalizing ps with
      | nil=>cases h; exact .nil
      | cons e es ih =>
        cases h with
        | cons h1 h2=>exact .cons (A.e c X G _ _ h1) (ih h2)
    refine (pe_fstr (pes hs) (hev X.env)).imp fun σ H Q h=>?_
    obtain ⟨m,st,τ,d,st',R0,S0,e,post⟩:=h
    have e : ((M.evs ((M.rn fns dl n).ev τ) es st).bind fun p=>(M.catD p.1 Str.empty).map fun z=>(D.str z,p.2)) = some (d,st'):=e
    obtain ⟨p,e1,e⟩:=bindO e
    obtain ⟨z,e2,e3⟩:=mapD e
    cases e3
    exact joins_run R0 S0 e1 e2 (Nat.zero_le _) post
  | @dic0 _ pos =>
    refine pe_dnewK.imp fun σ H Q h=>?_
    obtain ⟨m,st,τ,d,st',R0,S0,e,post⟩:=h
    have e0 : M.dicAt (st++[Cell.dic []]) st.length = some []:=by simp [M.dicAt]
    have e : (match M.dicAt (st++[Cell.dic []]) st.length with
      | some []=>(M.pairUp []).bind fun kvs=>if kvs.length ≤ 15 then some (D.loc st.length,(st++[Cell.dic []]).set st.length (Cell.dic (M.dall kvs))) else none
      | _=>none) = some (d,st'):=e
    rw [e0] at e
    have e2 : (st++[Cell.dic []]).set st.length (.dic []) = st++[.dic []]:=by simp
    have e : some (D.loc st.length,(st++[Cell.dic []]).set st.length (.dic [])) = some (d,st'):=e
    rw [e2] at e
    cases e
    intro pp hp
    exact post _ (m++[pp]) _ (Sub.app _ _) (Tr.of_same (same_new hp)) (R0.newD (kvs:=[]) (xs:=[]) hp rfl) R0.newLoc
  | @dic _ es k v ks vs pos hP h15 =>
    obtain ⟨h1,h2,h3⟩:=pairs_pps A G (pos:=pos) hP
    refine (pe_disp h1 h2 h3 (by simp) h15).imp fun σ H Q h=>?_
    obtain ⟨m,st,τ,d,st',R0,S0,e,post⟩:=h
    have e : ((M.evs ((M.rn fns dl n).ev τ) es (st++[.dic []])).bind fun p=>match M.dicAt p.2 st.length with
      | some []=>(M.pairUp p.1).bind fun kvs=>if kvs.length ≤ 15 then some (D.loc st.length,p.2.set st.length (.dic (M.dall kvs))) else none
      | _=>none) = some (d,st'):=e
    obtain ⟨p,e1,e⟩:=bindO e
    split at e
    · rename_i hdic
      obtain ⟨kvs,e2,e⟩:=bindO e
      split at e
      · rename_i hl
        cases e
        intro pp hp
        have sm:=same_new (o:=.dK []) hp
        refine pairs_run hP (R0.newD (kvs:=[]) (xs:=[]) hp rfl) (S0.mono (Sub.app _ _) (Tr.of_same sm)) e1 fun xs m1 H1 b1 t1 R1 ix=>?_
        obtain ⟨ys,hkv,htw⟩:=pairs_kv ix e2
        have hloc : MS.IsD X.K m1 H1 (.loc st.length) (.ref pp):=isD_mono b1 (Tr.refl H1) _ _ (R0.newLoc (p:=pp))
        obtain ⟨a',xs',ha',ea,hH,hkv0,hst⟩:=R1.dict hdic hloc
        cases ea
        have hx0 : xs' = []:=hkv0
        subst hx0
        have l1:=hkv.length
        refine ⟨hH,ys,htw,by omega,?_⟩
        exact post _ m1 _ ((Sub.app _ _).trans b1) ((Tr.of_same sm).trans (t1.trans (Tr.putD hH))) (R1.putD hst ha' hH (hkv.merge (show IsKV X.K m1 H1 [] [] from rfl))) (isD_mono (Sub.refl _) (Tr.putD hH) _ _ hloc)
      · cases e
    · cases e
  | @didx _ a b pa pb pos ha hb hs=>exact pe_didxD (by omega) (A.e c X G a pa ha) (A.e c X G b pb hb) hs
  | @din _ a b pa pb pos ha hb hm=>exact pe_cmp (pc_dinD (by omega) false (A.e c X G a pa ha) (A.e c X G b pb hb)) hm
  | @dnin _ a b pa pb pos ha hb hm=>exact pe_cmp (pc_dinD (by omega) true (A.e c X G a pa ha) (A.e c X G b pb hb)) hm
  | @dgt _ a b pa pb apos cpos ha hb hbs hl htr =>
    exact pe_dgtD (by omega) (A.e c X G a pa ha) (A.e c X G b pb hb) ⟨hbs X.env,by rw [htr]; rfl,hl,htr X.env⟩
  | @gidx _ x ks ds b pb p0 pos hg hm hd hb hs =>
    obtain ⟨ad,h1,h2⟩:=G.mo.gds x ks ds hm
    exact pe_gidxD (G.gl hg) h1 h2 hd (A.e c X G b pb hb) hs
  | @gin _ x ks ds b pb p0 pos hg hm hd hb =>
    obtain ⟨ad,h1,h2⟩:=G.mo.gds x ks ds hm
    exact pe_cmp (pc_ginD false (G.gl hg) h1 h2 hd (A.e c X G b pb hb)) rfl
  | @gnin _ x ks ds b pb p0 pos hg hm hd hb =>
    obtain ⟨ad,h1,h2⟩:=G.mo.gds x ks ds hm
    exact pe_cmp (pc_ginD true (G.gl hg) h1 h2 hd (A.e c X G b pb hb)) rfl
  | @sli _ a lo hi pa pl ph p2 pos ha hl hh =>
    refine (pe_slice sl_D (A.e c X G a pa ha) (po_ok A G hl) (po_ok A G hh)).imp fun σ H Q h=>?_
    obtain ⟨m,st,τ,d,st',R0,S0,e,post⟩:=h
    have e : (((M.rn fns dl n).ev τ st a).bind fun p=>(M.part (M.rn fns dl n) τ p.2 lo).bind fun l=>(M.part (M.rn fns dl n) τ l.2 hi).bind fun h=>M.sliD h.2 p.1 l.1 h.1) = some (d,st'):=e
    obtain ⟨d1,s1,e1,e⟩:=bindD e
    obtain ⟨l,e2,e⟩:=bindO e
    obtain ⟨u,e3,e⟩:=bindO e
    exact ⟨m,st,τ,d1,s1,R0,S0,e1,fun x m1 H1 b1 t1 R1 i1=>⟨m1,s1,τ,l.1,l.2,R1,S0.mono b1 t1,e2,fun m2 H2 b2 t2 R2=>⟨m2,l.2,τ,u.1,u.2,R2,S0.mono (b1.trans b2) (t1.trans t2),e3,fun m3 H3 b3 t3 R3 =>
      ⟨m3,u.2,d1,d,st',R3,isD_mono (b2.trans b3) (t2.trans t3) _ _ i1,e,post.mono (b1.trans (b2.trans b3)) (t1.trans (t2.trans t3))⟩⟩⟩⟩
  | @comp _ t it elt sr tg iter pelt scope pos N hk hcell hfree hloc hlen hsrc hnd hs hi ht htl he =>
    have S:=comp_scope G hk hcell hfree hloc hlen hsrc
    exact (pe_comp (tt:=fun _ H Q=>Q true H) G.calm S (iter_ok A G hi) (fun C fp s H=>target_ok (G.inner hk hnd) ht fun i hi' x hx=>.inr (tlOk_of htl i hi' x hx)) (fun C fp s H=>test_nil) (fun C fp s H=>A.e _ _ (G.inner hk hnd) elt pelt he) (hs X.env)).imp fun σ H Q h =>
      tD_comp (fun _ _ _ q=>q) h
  | @compIf _ t it q elt sr tg iter pq pelt scope pos N hk hcell hfree hloc hlen hsrc hnd hs hi ht htl hq he =>
    have S:=comp_scope G hk hcell hfree hloc hlen hsrc
    exact (pe_comp G.calm S (iter_ok A G hi) (fun C fp s H=>target_ok (G.inner hk hnd) ht fun i hi' x hx=>.inr (tlOk_of htl i hi' x hx)) (fun C fp s H=>test_one (A.t _ _ (G.inner hk hnd) q pq hq)) (fun C fp s H=>A.e _ _ (G.inner hk hnd) elt pelt he) (hs X.env)).imp fun σ H Q h =>
      tD_comp (fun _ _ _ q=>q) h
end
end MS
end
section
set_option linter.all false
set_option Elab.async false
set_option maxRecDepth 100000
set_option maxHeartbeats 4000000
namespace MS
open PySem PySem.Spec PyProof.Rows L2
open M (D Cell Store Sl E S T Src Fn Out R)
section
variable {fns : List Fn} {dl n : Nat} {c : Ctx} {X : Cx}
theorem tt_val {K : PySem.W.Frag} {r : R} {e : E} {σ : L2.St} {H : Hp} {Q : Bool→Hp→Prop} (hr : ∀ τ st,M.stepTst r τ st e = (r.ev τ st e).bind fun p=>(M.truth p.2 p.1).map fun k=>(k,p.2))
    (h : tTs K (fun τ st=>M.stepTst r τ st e) σ H Q) : (tD K fun τ st=>r.ev τ st e) σ H fun x H'=>∃ k,TruV K x H' k∧Q k H':=by
  obtain ⟨m,st,τ,d,st',R0,S0,e0,q⟩:=h
  have e0:=(hr τ st).symm.trans e0
  obtain ⟨d1,s1,e1,e0⟩:=bindD e0
  obtain ⟨k,e2,e3⟩:=mapD e0
  cases e3
  exact ⟨m,st,τ,d1,s1,R0,S0,e1,fun x m1 H1 b1 t1 R1 i1=>⟨_,truV_of R1 i1 e2,q m1 H1 b1 t1 R1⟩⟩
theorem tt_bl {K : PySem.W.Frag} {r : R} {e : E} {f : Sl→Store→Option (D × Store)} {σ : L2.St} {H : Hp} {Q : Bool→Hp→Prop} (hr : ∀ τ st,M.stepTst r τ st e = (f τ st).bind fun p=>(M.truth p.2 p.1).map fun k=>(k,p.2)) (hf : ∀ τ st d st',f τ st = some (d,st')→∃ k,d = .bl k)
    (h : tTs K (fun τ st=>M.stepTst r τ st e) σ H Q) : tB (tD K f) σ H Q:=by
  obtain ⟨m,st,τ,d,st',R0,S0,e0,q⟩:=h
  have e0:=(hr τ st).symm.trans e0
  obtain ⟨d1,s1,e1,e0⟩:=bindD e0
  obtain ⟨k,rfl⟩:=hf _ _ _ _ e1
  cases e0
  exact ⟨m,st,τ,_,_,R0,S0,e1,fun x m1 H1 b1 t1 R1 i1=>⟨_,i1.bl,q m1 H1 b1 t1 R1⟩⟩
theorem din_bl {r : R} {τ : Sl} {st st' : Store} {neg : Bool} {a b : E} {d : D} (h : M.dinR r τ st neg a b = some (d,st')) : ∃ k,d = .bl k:=by
  unfold M.dinR at h
  obtain ⟨d1,s1,e1,h⟩:=bindD h
  obtain ⟨d2,s2,e2,h⟩:=bindD h
  cases d2 with
  | loc l =>
    obtain ⟨kvs,e3,h⟩:=bindO h
    split at h
    · cases h; exact ⟨_,rfl⟩
    · cases h
  | _=>cases h
theorem gin_bl {r : R} {τ : Sl} {st st' : Store} {neg : Bool} {ks : List Str} {b : E} {d : D} (h : M.ginR r τ st neg ks b = some (d,st')) : ∃ k,d = .bl k:=by
  unfold M.ginR at h
  obtain ⟨d1,s1,e1,h⟩:=bindD h
  cases d1 with
  | str z=>cases h; exact ⟨_,rfl⟩
  | _=>cases h
theorem tt_and {K : PySem.W.Frag} {r : R} {a b : E} {σ : L2.St} {H : Hp} {Q : Bool→Hp→Prop} (h : tTs K (fun τ st=>M.stepTst r τ st (.and a b)) σ H Q) : tAnd (tTs K fun τ st=>r.tst τ st a) (tTs K fun τ st=>r.tst τ st b) σ H Q:=by
  obtain ⟨m,st,τ,d,st',R0,S0,e0,q⟩:=h
  have e0 : ((r.tst τ st a).bind fun p=>if p.1 then r.tst τ p.2 b else some (false,p.2)) = some (d,st'):=e0
  obtain ⟨p,e1,e0⟩:=bindO e0
  refine ⟨m,st,τ,p.1,p.2,R0,S0,e1,fun m1 H1 b1 t1 R1=>?_⟩
  cases hp : p.1 with
  | true =>
    rw [hp,if_pos rfl] at e0
    rw [if_pos rfl]
    exact ⟨m1,p.2,τ,d,st',R1,S0.mono b1 t1,e0,fun m2 H2 b2 t2 R2=>q m2 H2 (b1.trans b2) (t1.trans t2) R2⟩
  | false =>
    rw [hp,if_neg Bool.false_ne_true] at e0
    cases e0
    rw [if_neg Bool.false_ne_true]
    exact q m1 H1 b1 t1 R1
theorem tt_or {K : PySem.W.Frag} {r : R} {a b : E} {σ : L2.St} {H : Hp} {Q : Bool→Hp→Prop} (h : tTs K (fun τ st=>M.stepTst r τ st (.or a b)) σ H Q) : tOr (tTs K fun τ st=>r.tst τ st a) (tTs K fun τ st=>r.tst τ st b) σ H Q:=by
  obtain ⟨m,st,τ,d,st',R0,S0,e0,q⟩:=h
  have e0 : ((r.tst τ st a).bind fun p=>if p.1 then some (true,p.2) else r.tst τ p.2 b) = some (d,st'):=e0
  obtain ⟨p,e1,e0⟩:=bindO e0
  refine ⟨m,st,τ,p.1,p.2,R0,S0,e1,fun m1 H1 b1 t1 R1=>?_⟩
  cases hp : p.1 with
  | false =>
    rw [hp,if_neg Bool.false_ne_true] at e0
    rw [if_neg Bool.false_ne_true]
    exact ⟨m1,p.2,τ,d,st',R1,S0.mono b1 t1,e0,fun m2 H2 b2 t2 R2=>q m2 H2 (b1.trans b2) (t1.trans t2) R2⟩
  | true =>
    rw [hp,if_pos rfl] at e0
    cases e0
    rw [if_pos rfl]
    exact q m1 H1 b1 t1 R1
theorem slot_back {K : PySem.W.Frag} {m m1 : List Addr} {H H1 H2 : Hp} {τ : Sl} {σ σ' : L2.St} {i : Nat} {d0 d : D} (S0 : SlotOk K m H τ σ) (S1 : SlotOk K m1 H1 (τ.set i (some d0)) σ') (s : Sub m m1) (t : Tr H1 H2) (hd : ∀ v,MS.IsD K m1 H1 d0 v→MS.IsD K m H2 d v) : SlotOk K m H2 (τ.set i (some d)) σ':=by
  refine ⟨by have:=S1.len; rwa [List.length_set] at this ⊢,fun j e ej=>?_⟩
  by_cases hj : i = j
  · subst hj
    have hi : i < τ.length:=by
      have:=(List.getElem?_eq_some_iff.mp ej).1
      rwa [List.length_set] at this
    rw [List.getElem?_set_self hi] at ej
    cases ej
    obtain ⟨v,e1,q⟩:=S1.at_ i d0 (List.getElem?_set_self hi)
    exact ⟨v,e1,hd v q⟩
  · rw [List.getElem?_set_ne hj] at ej
    obtain ⟨v0,_,q0⟩:=S0.at_ j e ej
    obtain ⟨v,e1,q⟩:=S1.at_ j e (by rw [List.getElem?_set_ne hj]; exact ej)
    exact ⟨v,e1,isD_mono (Sub.refl m) t _ _ (isD_back s _ _ _ q0 q)⟩
theorem ps_setgc {p : Stmt} {f : Sl→Store→Option (D × Store)} {i : Nat} (h : PS X p (tS X.K fun τ st=>(f τ st).bind fun q=>(M.setT (.var i) q.1 τ).map fun τ'=>(Out.nx τ',q.2))) :
    PS X p (tS X.K fun τ st=>((f τ st).map fun q=>M.gcD st q).bind fun q=>(M.setT (.var i) q.1 τ).map fun τ'=>(Out.nx τ',q.2)):=by
  intro pins s σ H Dn I q
  obtain ⟨m,st,τ,o,st',R0,S0,e,post⟩:=q
  obtain ⟨d,s1,e1,e⟩:=bindD e
  obtain ⟨⟨d0,st0⟩,e2,e3⟩:=mapD e1
  obtain ⟨τ',e4,e5⟩:=mapD e
  cases e5
  have e4 : (if i < τ.length then some (τ.set i (some d)) else none) = some τ':=e4
  split at e4
  case isFalse=>cases e4
  case isTrue hi =>
    cases e4
    refine thn (h pins s σ H ⟨fun σ' H1=>∃ m1,Sub m m1∧Tr H H1∧Rel X.K m1 st0 H1∧SlotOk X.K m1 H1 (τ.set i (some d0)) σ',fun _ _=>False,fun _ _=>False,fun _ _=>False⟩ I ⟨m,st,τ,.nx (τ.set i (some d0)),st0,R0,S0,by show (f τ st).bind _ = _; rw [e2]; show Option.map _ (if i < τ.length then some (τ.set i (some d0)) else none) = _; rw [if_pos hi]; rfl,fun m1 H1 b t R σ' S1=>⟨m1,b,t,R,S1⟩⟩) fun fl s2 hf=>?_
    cases fl with
    | next =>
      obtain ⟨σ',H1,I1,m1,b1,t1,R1,S1⟩:=hf
      have plain : (d0,st0) = (d,s1)→SP X pins Dn .next s2:=fun z=>by
        cases z
        exact ⟨σ',H1,I1,post m1 H1 b1 t1 R1 σ' S1⟩
      unfold M.gcD at e3
      split at e3
      · rename_i hp
        split at e3
        · rename_i hn
          cases e3
          exact ⟨σ',H1,I1,post m H1 (Sub.refl m) t1 (R0.cutBack R1 b1 hp (Tr.refl H1) fun _ _ _ _ _ _=>rfl) σ' (slot_back S0 S1 b1 (Tr.refl H1) fun v q=>isD_nl _ _ hn q)⟩
        · split at e3
          · rename_i l hd
            simp only at hd
            split at e3
            · rename_i hl
              split at e3
              · rename_i ds hc
                split at e3
                · rename_i hn
                  cases e3
                  subst hd
                  obtain ⟨a,ha⟩:=R1.addr hc
                  obtain ⟨xs,hx,ix⟩:=R1.cell l _ a hc ha
                  obtain ⟨o,I2⟩:=inv_freeze I1 hx
                  have t2 : Tr H1 (upd H1 a (.frz o (.lst xs))):=⟨fun b zs e=>by rw [upd_ne (ne_of e hx (by intro z; cases z))]; exact e,fun b o u e=>by rw [upd_ne (ne_of e hx (by intro z; cases z))]; exact e⟩
                  refine ⟨σ',_,I2,post m _ (Sub.refl m) (t1.trans t2) (R0.cutBack R1 b1 hp t2 fun l' c a' e ea w=>?_) σ' (slot_back S0 S1 b1 t2 fun v q=>?_)⟩
                  · refine upd_ne fun z=>?_
                    subst z
                    have hlt:=(List.getElem?_eq_some_iff.mp e).1
                    have:=R1.nd l' l a' c _ (b1 l' a' ea) ha (pre_at hp e) hc w rfl
                    omega
                  · obtain ⟨a',ha',rfl⟩:=q.loc
                    rw [ha] at ha'
                    cases ha'
                    exact mkLst (.inl ⟨o,upd_same⟩) (isDs_nl _ _ hn (isDs_mono (Sub.refl m1) t2 _ _ ix))
                · exact plain e3
              · exact plain e3
            · exact plain e3
          · exact plain e3
      · exact plain e3
    | brk=>obtain ⟨_,_,_,z⟩:=hf; exact z.elim
    | cont=>obtain ⟨_,_,_,z⟩:=hf; exact z.elim
    | ret u=>obtain ⟨_,_,_,_,_,z⟩:=hf; exact z.elim
theorem w_ok (A : AllOk fns dl n) (G' : Good fns dl c X) {e : E} {op : BoolOp} {ps : List Expr} {pos : Pos} (h : CkE c e (.BoolOp op ps pos)) : PW X (.BoolOp op ps pos) (tTs X.K fun τ st=>M.stepTst (M.rn fns dl n) τ st e):=by
  have G:=G'
  cases h with
  | @and2 _ a b pa pb pos ha hb=>exact (pw_and (A.t c X G a pa ha) (pw_and1 (A.t c X G b pb hb))).imp fun σ H Q h=>tt_and h
  | @andN _ a b pa pb pd r pos ha hb=>exact (pw_and (A.t c X G a pa ha) (A.w c X G b _ _ _ hb)).imp fun σ H Q h=>tt_and h
  | @or2 _ a b pa pb pos ha hb=>exact (pw_or (A.t c X G a pa ha) (pw_or1 (A.t c X G b pb hb))).imp fun σ H Q h=>tt_or h
  | @orN _ a b pa pb pd r pos ha hb=>exact (pw_or (A.t c X G a pa ha) (A.w c X G b _ _ _ hb)).imp fun σ H Q h=>tt_or h
  | gc hp hg ha=>cases hp
theorem t_ok (A : AllOk fns dl n) (G' : Good fns dl c X) {e : E} {p : Expr} (h : CkE c e p) : PT X p (tTs X.K fun τ st=>M.stepTst (M.rn fns dl n) τ st e):=by
  have G:=G'
  have hu : X.A.units + 64 < cLine:=G'.room.units
  have hA:=A.e c X G e p h
  cases h with
  | @not _ a pa pos ha =>
    refine (pt_not (A.t c X G a pa ha)).imp fun σ H Q h=>?_
    obtain ⟨m,st,τ,d,st',R0,S0,e0,q⟩:=h
    obtain ⟨p,e1,e2⟩:=mapD e0
    cases e2
    exact ⟨m,st,τ,p.1,p.2,R0,S0,e1,fun m1 H1 b1 t1 R1=>q m1 H1 b1 t1 R1⟩
  | and2 ha hb=>exact (w_ok A G' (.and2 ha hb)).pt
  | andN ha hb=>exact (w_ok A G' (.andN ha hb)).pt
  | or2 ha hb=>exact (w_ok A G' (.or2 ha hb)).pt
  | orN ha hb=>exact (w_ok A G' (.orN ha hb)).pt
  | @cmp _ op a b pa pb pos ha hb hm =>
    refine (pt_cmpR (op_cmpD hu op) (A.e c X G a pa ha) (A.e c X G b pb hb) hm).imp fun σ H Q h=>?_
    obtain ⟨m,st,τ,d,st',R0,S0,e0,q⟩:=h
    obtain ⟨d1,s1,e1,e0⟩:=bindD e0
    obtain ⟨d2,s2,e2,e0⟩:=bindD e0
    obtain ⟨k,e3,e4⟩:=mapD e0
    cases e4
    exact ⟨m,st,τ,d1,s1,R0,S0,e1,fun x m1 H1 b1 t1 R1 i1=>⟨m1,s1,τ,d2,s2,R1,S0.mono b1 t1,e2,fun y m2 H2 b2 t2 R2 i2 =>
      ⟨m2,s2,d1,d2,.bl d,s2,R2,isD_mono b2 t2 _ _ i1,i2,by show Option.map _ (M.cmpD s2 op d1 d2) = _; rw [show M.cmpD s2 op d1 d2 = some d from e3]; rfl,fun z m3 H3 b3 t3 R3 i3=>⟨d,i3.bl,q m3 H3 (b1.trans (b2.trans b3)) (t1.trans (t2.trans t3)) R3⟩⟩⟩⟩
  | @cmp2 _ op op' a b d pa pb pd pos ha hb hd hm =>
    refine (pt_chain (op_cmpD hu op) (op_cmpD hu op') (A.e c X G a pa ha) (A.e c X G b pb hb) (A.e c X G d pd hd) hm).imp fun σ H Q h=>?_
    obtain ⟨m,st,τ,dd,st',R0,S0,e,q⟩:=h
    obtain ⟨d1,s1,e1,e⟩:=bindD e
    obtain ⟨d2,s2,e2,e⟩:=bindD e
    obtain ⟨k,e3,e⟩:=bindO e
    refine ⟨m,st,τ,d1,s1,R0,S0,e1,fun x m1 H1 b1 t1 R1 i1=>⟨m1,s1,τ,d2,s2,R1,S0.mono b1 t1,e2,fun y m2 H2 b2 t2 R2 i2 =>
      ⟨m2,s2,d1,d2,.bl k,s2,R2,isD_mono b2 t2 _ _ i1,i2,by show Option.map _ (M.cmpD s2 op d1 d2) = _; rw [show M.cmpD s2 op d1 d2 = some k from e3]; rfl,fun z m3 H3 b3 t3 R3 i3=>⟨k,i3.bl,?_⟩⟩⟩⟩
    cases k with
    | true =>
      rw [if_pos rfl] at e ⊢
      obtain ⟨d3,s3,e4,e⟩:=bindD e
      obtain ⟨k',e5,e6⟩:=mapD e
      cases e6
      exact ⟨m3,s2,τ,d3,s3,R3,S0.mono (b1.trans (b2.trans b3)) (t1.trans (t2.trans t3)),e4,fun y' m4 H4 b4 t4 R4 i4 =>
        ⟨m4,s3,d2,d3,.bl dd,s3,R4,isD_mono (b3.trans b4) (t3.trans t4) _ _ i2,i4,by show Option.map _ (M.cmpD s3 op' d2 d3) = _; rw [show M.cmpD s3 op' d2 d3 = some dd from e5]; rfl,
          fun z m5 H5 b5 t5 R5 i5=>⟨dd,i5.bl,q m5 H5 (b1.trans (b2.trans (b3.trans (b4.trans b5)))) (t1.trans (t2.trans (t3.trans (t4.trans t5)))) R5⟩⟩⟩
    | false =>
      rw [if_neg Bool.false_ne_true] at e ⊢
      cases e
      exact ⟨false,rfl,q m3 H3 (b1.trans (b2.trans b3)) (t1.trans (t2.trans t3)) R3⟩
  | ite hq ha hb=>exact fun pins s σ H Q I q=>by obtain ⟨m,st,τ,d,st',_,_,z,_⟩:=q; cases z
  | @din _ a b pa pb pos ha hb hm=>exact (pt_cmp (pc_dinD (by omega) false (A.e c X G a pa ha) (A.e c X G b pb hb)) hm).imp fun σ H Q h=>tt_bl (fun _ _=>rfl) (fun _ _ _ _ z=>din_bl z) h
  | @dnin _ a b pa pb pos ha hb hm=>exact (pt_cmp (pc_dinD (by omega) true (A.e c X G a pa ha) (A.e c X G b pb hb)) hm).imp fun σ H Q h=>tt_bl (fun _ _=>rfl) (fun _ _ _ _ z=>din_bl z) h
  | @gin _ x ks ds b pb p0 pos hg hm hd hb =>
    obtain ⟨ad,h1,h2⟩:=G.mo.gds x ks ds hm
    exact (pt_cmp (pc_ginD false (G.gl hg) h1 h2 hd (A.e c X G b pb hb)) rfl).imp fun σ H Q h=>tt_bl (fun _ _=>rfl) (fun _ _ _ _ z=>gin_bl z) h
  | @gnin _ x ks ds b pb p0 pos hg hm hd hb =>
    obtain ⟨ad,h1,h2⟩:=G.mo.gds x ks ds hm
    exact (pt_cmp (pc_ginD true (G.gl hg) h1 h2 hd (A.e c X G b pb hb)) rfl).imp fun σ H Q h=>tt_bl (fun _ _=>rfl) (fun _ _ _ _ z=>gin_bl z) h
  | gc hp hg ha =>
    cases p with
    | Call=>exact (pt_truth hA fun _=>rfl).imp fun σ H Q h=>tt_val (fun _ _=>rfl) h
    | ListComp=>exact (pt_truth hA fun _=>rfl).imp fun σ H Q h=>tt_val (fun _ _=>rfl) h
    | List=>exact (pt_truth hA fun _=>rfl).imp fun σ H Q h=>tt_val (fun _ _=>rfl) h
    | BinOp=>exact (pt_truth hA fun _=>rfl).imp fun σ H Q h=>tt_val (fun _ _=>rfl) h
    | Subscript=>exact (pt_truth hA fun _=>rfl).imp fun σ H Q h=>tt_val (fun _ _=>rfl) h
    | _=>cases hp
  | _=>exact (pt_truth hA fun _=>rfl).imp fun σ H Q h=>tt_val (fun _ _=>rfl) h
theorem S_nx {K : PySem.W.Frag} {m : List Addr} {H : Hp} {τ : Sl} {st' : Store} {Dn : Ends} {σ : L2.St} (p : PostO K m H (.nx τ) st' Dn) {m' : List Addr} {H' : Hp} (b : Sub m m') (t : Tr H H') (R0 : Rel K m' st' H') (S0 : SlotOk K m' H' τ σ) : Dn.nx σ H':=p m' H' b t R0 σ S0
theorem set_ok {K : PySem.W.Frag} {r : R} {i : Nat} {e : E} {te : TE} {Dn : Ends} {σ : L2.St} {H : Hp} (hte : ∀ Q,(tD K fun τ st=>r.ev τ st e) σ H Q→te σ H Q) (h : tS K (fun τ st=>M.stepEx r τ st (.set (.var i) e)) Dn σ H) : tAsg te (gName i) Dn σ H:=by
  obtain ⟨m,st,τ,o,st',R0,S0,e0,q⟩:=h
  obtain ⟨d1,s1,e1,e0⟩:=bindD e0
  obtain ⟨τ',e2,e3⟩:=mapD e0
  cases e3
  have e2 : (if i < τ.length then some (τ.set i (some d1)) else none) = some τ':=e2
  split at e2
  · cases e2
    exact hte _ ⟨m,st,τ,d1,s1,R0,S0,e1,fun x m1 H1 b1 t1 R1 i1=>S_nx q b1 t1 R1 ((S0.mono b1 t1).put i1)⟩
  · cases e2
theorem setC_ok (IH : ∀ j,j ≤ n→AllOk fns dl j) (G : Good fns dl c X) (hf : ∀ x,X.fn x = true) {i : Nat} {e : E} {x : Str} {p : Expr} {pos pos' : Pos} (hi : c.N[i]? = some x) (hl : c.sc.names.lookup x = some .local∨c.sc.names.lookup x = some .cell) (he : CkE c e p) (hg : ∀ a,e ≠ .gc a) (hc : ∃ elt gs sc q,p = .ListComp elt gs sc q) (hs : ∀ env : Env,env.scope = c.sc→(swapsWith p (some (.Name x pos')) pos.line env = pure false∨swapsWith p (some (.Name x pos')) pos.line env = pure true)) :
    PS X (.Assign [.Name x pos'] p pos) (tS X.K fun τ st=>M.stepEx (M.rn fns dl n) τ st (.set (.var i) e)):=by
  have A:=IH n (Nat.le_refl n)
  have hN : X.N.Nodup:=by rw [G.N]; exact G.nd
  have loc : ∀ {x : Str},(c.sc.names.lookup x = some .local∨c.sc.names.lookup x = some .cell)→Loc X.env.scope x:=fun {x} h=>by show X.env.scope.names.lookup x = _∨_ = _; rw [G.sc]; exact h
  rcases hs X.env G.sc with z | z
  · exact (ps_set hN (var_of G hi) (loc hl) (A.e c X G e p he) z (.inl (hf x))).imp fun D σ H h=>set_ok (fun _ q=>q) h
  · cases n with
    | zero=>exact fun pins s σ H Dn I q=>by obtain ⟨m,st,τ,d,st',_,_,w,_⟩:=q; cases w
    | succ n =>
      have A1:=IH n (Nat.le_succ n)
      have G1:=G
      obtain ⟨elt,gs,sc,q,rfl⟩:=hc
      cases he with
      | @comp _ t it elt' sr tg iter pelt scope cpos N hk hcell hfree hloc hlen hsrc hnd hfs hit ht htl he =>
        have SC:=comp_scope G1 hk hcell hfree hloc hlen hsrc
        exact (ps_setComp (tt:=fun _ H Q=>Q true H) G1.calm SC (iter_ok A1 G1 hit) (fun C fp s H=>target_ok (G1.inner hk hnd) ht fun i hi' x hx=>.inr (tlOk_of htl i hi' x hx)) (fun C fp s H=>test_nil) (fun C fp s H=>A1.e _ _ (G1.inner hk hnd) elt' _ he) (hfs X.env) hN (var_of G hi) (loc hl) (.inl (hf x)) z).imp fun D σ H h =>
          set_ok (fun Q q=>tD_comp (fun _ _ _ q=>q) q) h
      | @compIf _ t it cq elt' sr tg iter pq pelt scope cpos N hk hcell hfree hloc hlen hsrc hnd hfs hit ht htl hq he =>
        have SC:=comp_scope G1 hk hcell hfree hloc hlen hsrc
        exact (ps_setComp G1.calm SC (iter_ok A1 G1 hit) (fun C fp s H=>target_ok (G1.inner hk hnd) ht fun i hi' x hx=>.inr (tlOk_of htl i hi' x hx)) (fun C fp s H=>test_one (A1.t _ _ (G1.inner hk hnd) cq pq hq)) (fun C fp s H=>A1.e _ _ (G1.inner hk hnd) elt' _ he) (hfs X.env) hN (var_of G hi) (loc hl) (.inl (hf x)) z).imp fun D σ H h =>
          set_ok (fun Q q=>tD_comp (fun _ _ _ q=>q) q) h
      | gc hp hg' ha=>exact (hg _ rfl).elim
theorem s1_ok (IH : ∀ j,j ≤ n→AllOk fns dl j) (G : Good fns dl c X) (hf : ∀ x,X.fn x = true) {s : S} {p : Stmt} (h : CkS c s p) : PS X p (tS X.K fun τ st=>M.stepEx (M.rn fns dl n) τ st s):=by
  have A:=IH n (Nat.le_refl n)
  have hN : X.N.Nodup:=by rw [G.N]; exact G.nd
  have loc : ∀ {x : Str},(c.sc.names.lookup x = some .local∨c.sc.names.lookup x = some .cell)→Loc X.env.scope x:=fun {x} h=>by show X.env.scope.names.lookup x = _∨_ = _; rw [G.sc]; exact h
  cases h with
  | @set i e x p pos pos' hi hl he hs=>exact (ps_set hN (var_of G hi) (loc hl) (A.e c X G e p he) (hs X.env) (.inl (hf x))).imp fun D σ H h=>set_ok (fun _ q=>q) h
  | @setC i e x p pos pos' hi hl he hc hs =>
    by_cases hgc : ∃ a,e = .gc a
    · obtain ⟨a,rfl⟩:=hgc
      cases he with
      | gc hp hg ha =>
        cases n with
        | zero=>exact fun pins s σ H Dn I q=>by obtain ⟨m,st,τ,d,st',_,_,w,_⟩:=q; cases w
        | succ n=>exact (ps_setgc (setC_ok (fun j hj=>IH j (Nat.le_succ_of_le hj)) G hf hi hl ha hg hc hs)).imp fun _ _ _ q=>q
    · exact setC_ok IH G hf hi hl he (fun a z=>hgc ⟨a,z⟩) hc hs
  | @setT is e es k p pos tpos ht he hs hw h1 =>
    refine (ps_asg (A.e c X G e p he) (target_ok (t:=.tup is) G (.tup ht) fun i _ x _=>.inl (hf x)) (hs X.env) (hw X.env) (h1 X.env)).imp fun Dn σ H h=>?_
    obtain ⟨m,st,τ,o,st',R0,S0,e0,q⟩:=h
    obtain ⟨d1,s1,e1,e0⟩:=bindD e0
    obtain ⟨τ',e2,e3⟩:=mapD e0
    cases e3
    exact ⟨m,st,τ,d1,s1,R0,S0,e1,fun x m1 H1 b1 t1 R1 i1=>gT_of i1 (S0.mono b1 t1) e2 fun σ' S1=>S_nx q b1 t1 R1 S1⟩
  | @whil q body pq pb pos hq hb =>
    refine (ps_while (by rw [G.xe]; exact PassesOwn.never) (A.t c X G q pq hq) (A.s c X G hf body pb hb)).imp fun Dn σ H h=>?_
    obtain ⟨m,st,τ,o,st',R0,S0,e0,post⟩:=h
    have e0 : M.loopW (fun τ st=>(M.rn fns dl n).tst τ st q) (fun τ st=>(M.rn fns dl n).ex τ st body) M.lim τ st = some (o,st'):=e0
    refine ⟨fun k σ' H'=>∃ m2 st2 τ2,Sub m m2∧Tr H H'∧Rel X.K m2 st2 H'∧SlotOk X.K m2 H' τ2 σ'∧M.loopW (fun τ st=>(M.rn fns dl n).tst τ st q) (fun τ st=>(M.rn fns dl n).ex τ st body) k τ2 st2 = some (o,st'),
      ⟨_,m,st,τ,Sub.refl _,Tr.refl _,R0,S0,e0⟩,?_⟩
    rintro k σ' H' ⟨m2,st2,τ2,b2,t2,R2,S2,e4⟩
    cases k with
    | zero=>cases e4
    | succ k =>
      have e4 : (((M.rn fns dl n).tst τ2 st2 q).bind fun b=>if b.1 then ((M.rn fns dl n).ex τ2 b.2 body).bind fun p=>match p.1 with
          | .nx τ'=>M.loopW (fun τ st=>(M.rn fns dl n).tst τ st q) (fun τ st=>(M.rn fns dl n).ex τ st body) k τ' p.2
          | .ct τ'=>M.loopW (fun τ st=>(M.rn fns dl n).tst τ st q) (fun τ st=>(M.rn fns dl n).ex τ st body) k τ' p.2
          | .bk τ'=>some (.nx τ',p.2)
          | .rt v=>some (.rt v,p.2)
        else some (.nx τ2,b.2)) = some (o,st'):=e4
      obtain ⟨b,e5,e4⟩:=bindO e4
      refine ⟨m2,st2,τ2,b.1,b.2,R2,S2,e5,fun m3 H3 b3 t3 R3=>?_⟩
      cases hb : b.1 with
      | false =>
        rw [hb,if_neg Bool.false_ne_true] at e4
        cases e4
        rw [if_neg Bool.false_ne_true]
        exact S_nx post (b2.trans b3) (t2.trans t3) R3 (S2.mono b3 t3)
      | true =>
        rw [hb,if_pos rfl] at e4
        rw [if_pos rfl]
        obtain ⟨z,e6,e4⟩:=bindO e4
        refine ⟨fun σ4 H4=>∃ m4 st4 τ4,Sub m m4∧Tr H H4∧Rel X.K m4 st4 H4∧SlotOk X.K m4 H4 τ4 σ4∧M.loopW (fun τ st=>(M.rn fns dl n).tst τ st q) (fun τ st=>(M.rn fns dl n).ex τ st body) k τ4 st4 = some (o,st'),fun σ4 H4 w4=>⟨k,Nat.lt_succ_self k,w4⟩,?_⟩
        refine ⟨m3,b.2,τ2,z.1,z.2,R3,S2.mono b3 t3,e6,fun m4 H4 b4 t4 R4=>?_⟩
        cases hz : z.1 with
        | nx τ4 =>
          rw [hz] at e4
          exact fun σ4 S4=>⟨m4,z.2,τ4,b2.trans (b3.trans b4),t2.trans (t3.trans t4),R4,S4,e4⟩
        | ct τ4 =>
          rw [hz] at e4
          exact fun σ4 S4=>⟨m4,z.2,τ4,b2.trans (b3.trans b4),t2.trans (t3.trans t4),R4,S4,e4⟩
        | bk τ4 =>
          rw [hz] at e4
          cases e4
          exact fun σ4 S4=>S_nx post (b2.trans (b3.trans b4)) (t2.trans (t3.trans t4)) R4 S4
        | rt v =>
          rw [hz] at e4
          cases e4
          exact fun w iw=>post m4 H4 (b2.trans (b3.trans b4)) (t2.trans (t3.trans t4)) R4 w iw
  | @aug i op e x p pos pos' hi hl he =>
    refine (ps_aug hN (var_of G hi) (loc hl) (A.e c X G e p he) (ip_D op) (.inl (hf x))).imp fun Dn σ H h=>?_
    obtain ⟨m,st,τ,o,st',R0,S0,e0,q⟩:=h
    have e0 : (match τ[i]? with
      | some (some x)=>((M.rn fns dl n).ev τ st e).bind fun p=>(M.augD p.2 op x p.1).map fun z=>(Out.nx (τ.set i (some z)),p.2)
      | _=>none) = some (o,st'):=e0
    split at e0
    · rename_i d0 hd0
      obtain ⟨v0,hv0,iv0⟩:=S0.at_ i d0 hd0
      obtain ⟨d1,s1,e1,e0⟩:=bindD e0
      obtain ⟨z,e2,e3⟩:=mapD e0
      cases e3
      refine ⟨v0,hv0,m,st,τ,d1,s1,R0,S0,e1,fun y m1 H1 b1 t1 R1 i1=>⟨m1,s1,d0,d1,z,R1,isD_mono b1 t1 _ _ iv0,i1,e2,fun w iw=>?_⟩⟩
      exact S_nx q b1 t1 R1 ((S0.mono b1 t1).put iw)
    · cases e0
  | @setIx a i e pa pi pe tpos pos ha hi he hs hw h1 hA =>
    refine (ps_asg (A.e c X G e pe he) (pg_sub (A.e c X G a pa ha) (A.e c X G i pi hi) set_D (hA X.env)) (hs X.env) (hw X.env) (h1 X.env)).imp fun Dn σ H h=>?_
    obtain ⟨m,st,τ,o,st',R0,S0,e0,q⟩:=h
    obtain ⟨d1,s1,e1,e0⟩:=bindD e0
    obtain ⟨d2,s2,e2,e0⟩:=bindD e0
    obtain ⟨d3,s3,e3,e0⟩:=bindD e0
    obtain ⟨s4,e4,e5⟩:=mapD e0
    cases e5
    exact ⟨m,st,τ,d1,s1,R0,S0,e1,fun x m1 H1 b1 t1 R1 i1=>⟨m1,s1,τ,d2,s2,R1,S0.mono b1 t1,e2,fun y m2 H2 b2 t2 R2 i2=>⟨m2,s2,τ,d3,s3,R2,S0.mono (b1.trans b2) (t1.trans t2),e3,fun z m3 H3 b3 t3 R3 i3 =>
      ⟨m3,s3,d2,d3,d1,_,R3,isD_mono b3 t3 _ _ i2,i3,isD_mono (b2.trans b3) (t2.trans t3) _ _ i1,e4,fun m4 H4 b4 t4 R4=>S_nx q (b1.trans (b2.trans (b3.trans b4))) (t1.trans (t2.trans (t3.trans t4))) R4 (S0.mono (b1.trans (b2.trans (b3.trans b4))) (t1.trans (t2.trans (t3.trans t4))))⟩⟩⟩⟩
  | rais=>exact fun pins s σ H Dn I q=>by obtain ⟨m,st,τ,d,st',_,_,z,_⟩:=q; cases z
  | @dset a i e pa pi pe tpos pos ha hi he hs =>
    refine (ps_dput (by have:=G.room.units; omega) (A.e c X G a pa ha) (A.e c X G i pi hi) (A.e c X G e pe he) (hs X.env)).imp fun Dn σ H h=>?_
    obtain ⟨m,st,τ,o,st',R0,S0,e0,q⟩:=h
    obtain ⟨d1,s1,e1,e0⟩:=bindD e0
    obtain ⟨d2,s2,e2,e0⟩:=bindD e0
    obtain ⟨d3,s3,e3,e0⟩:=bindD e0
    cases d2 with
    | loc l =>
      have e0 : ((M.dicAt s3 l).bind fun kvs=>if M.isKey d3 && decide (kvs.length < M.lim) then some (Out.nx τ,s3.set l (.dic (M.dput kvs d3 d1))) else none) = some (o,st'):=e0
      obtain ⟨kvs,e4,e0⟩:=bindO e0
      split at e0
      · rename_i hk
        cases e0
        rw [Bool.and_eq_true,decide_eq_true_eq] at hk
        obtain ⟨k,hk1⟩:=key_of hk.1
        refine ⟨m,st,τ,d1,s1,R0,S0,e1,fun x m1 H1 b1 t1 R1 i1=>⟨m1,s1,τ,.loc l,s2,R1,S0.mono b1 t1,e2,fun y m2 H2 b2 t2 R2 i2=>⟨m2,s2,τ,d3,s3,R2,S0.mono (b1.trans b2) (t1.trans t2),e3,fun z m3 H3 b3 t3 R3 i3=>?_⟩⟩⟩
        obtain ⟨a',xs,ha',rfl,hH,hkv,hst⟩:=R3.dict e4 (isD_mono b3 t3 _ _ i2)
        have hz:=key_V hk1 i3
        subst hz
        have l1:=hkv.length
        have l2:=lim_eq
        refine ⟨a',_,rfl,DPut.k hH (by omega),?_⟩
        have iv:=isD_mono (b2.trans b3) (t2.trans t3) _ _ i1
        exact S_nx q (b1.trans (b2.trans b3)) (t1.trans (t2.trans (t3.trans (Tr.putD hH)))) (R3.putD hst ha' hH (hkv.put hk1 iv)) (S0.mono (b1.trans (b2.trans b3)) (t1.trans (t2.trans (t3.trans (Tr.putD hH)))))
      · cases e0
    | _=>cases e0
  | @expr e p pos he hs =>
    refine (ps_expr (A.e c X G e p he) (hs X.env)).imp fun Dn σ H h=>?_
    obtain ⟨m,st,τ,o,st',R0,S0,e0,q⟩:=h
    obtain ⟨p,e1,e2⟩:=mapD e0
    cases e2
    exact ⟨m,st,τ,p.1,p.2,R0,S0,e1,fun x m1 H1 b1 t1 R1 i1=>S_nx q b1 t1 R1 (S0.mono b1 t1)⟩
  | @ret e p pos he =>
    refine (ps_ret (A.e c X G e p he)).imp fun Dn σ H h=>?_
    obtain ⟨m,st,τ,o,st',R0,S0,e0,q⟩:=h
    obtain ⟨p,e1,e2⟩:=mapD e0
    cases e2
    exact ⟨m,st,τ,p.1,p.2,R0,S0,e1,fun x m1 H1 b1 t1 R1 i1=>q m1 H1 b1 t1 R1 x i1⟩
  | retN =>
    refine ps_retN.imp fun Dn σ H h=>?_
    obtain ⟨m,st,τ,o,st',R0,S0,e0,q⟩:=h
    cases e0
    exact q m H (Sub.refl m) (Tr.refl H) R0 _ mkNon
  | @ite q a b pq pa pb pos hq ha hb =>
    refine (ps_if (A.t c X G q pq hq) (A.s c X G hf a pa ha) (A.s c X G hf b pb hb)).imp fun Dn σ H h=>?_
    obtain ⟨m,st,τ,o,st',R0,S0,e0,post⟩:=h
    obtain ⟨p,e1,e0⟩:=bindO e0
    refine ⟨m,st,τ,p.1,p.2,R0,S0,e1,fun m1 H1 b1 t1 R1=>?_⟩
    cases hp : p.1 with
    | true =>
      rw [hp,if_pos rfl] at e0
      rw [if_pos rfl]
      exact ⟨m1,p.2,τ,o,st',R1,S0.mono b1 t1,e0,post.mono b1 t1⟩
    | false =>
      rw [hp,if_neg Bool.false_ne_true] at e0
      rw [if_neg Bool.false_ne_true]
      exact ⟨m1,p.2,τ,o,st',R1,S0.mono b1 t1,e0,post.mono b1 t1⟩
  | @forr t it body tg iter pb pos ht hi hs hb =>
      refine (ps_for (by rw [G.xe]; exact PassesOwn.never) G.calm (iter_ok A G hi) (target_ok G ht fun i _ x _=>.inl (hf x)) (A.s c X G hf body pb hb) (hs X.env)).imp fun Dn σ H h=>?_
      obtain ⟨m,st,τ,o,st',R0,S0,e0,post⟩:=h
      obtain ⟨p,e1,e0⟩:=bindO e0
      refine ⟨m,st,τ,p.1,p.2,R0,S0,e1,fun m1 H1 J b1 t1 R1 hJ=>?_⟩
      refine ⟨fun j k σ' H'=>∃ m2 st2 τ2,Sub m1 m2∧Tr H1 H'∧Rel X.K m2 st2 H'∧SlotOk X.K m2 H' τ2 σ'∧M.loop p.1 (fun τ st d=>(M.setT t d τ).bind fun τ'=>(M.rn fns dl n).ex τ' st body) k j τ2 st2 = some (o,st'),
        ⟨_,m1,p.2,τ,Sub.refl _,Tr.refl _,R1,S0.mono b1 t1,e0⟩,?_⟩
      rintro j k σ' H' ⟨m2,st2,τ2,b2,t2,R2,S2,e4⟩
      cases k with
      | zero=>cases e4
      | succ k =>
        have e4 : (p.1.at st2 j).bind (fun o=>match o with
          | none=>some (Out.nx τ2,st2)
          | some d=>((M.setT t d τ2).bind fun τ'=>(M.rn fns dl n).ex τ' st2 body).bind fun z=>match z.1 with
            | .nx τ'=>M.loop p.1 (fun τ st d=>(M.setT t d τ).bind fun τ'=>(M.rn fns dl n).ex τ' st body) k (j + 1) τ' z.2
            | .ct τ'=>M.loop p.1 (fun τ st d=>(M.setT t d τ).bind fun τ'=>(M.rn fns dl n).ex τ' st body) k (j + 1) τ' z.2
            | .bk τ'=>some (.nx τ',z.2)
            | .rt v=>some (.rt v,z.2)) = some (o,st'):=e4
        obtain ⟨oo,e5,e4⟩:=bindO e4
        cases oo with
        | none =>
          cases e4
          exact .inl ⟨(hJ.mono b2 t2).done R2 e5,S_nx post (b1.trans b2) (t1.trans t2) R2 S2⟩
        | some d =>
          obtain ⟨hgo,hy⟩:=(hJ.mono b2 t2).next R2 e5
          dsimp only at e4
          obtain ⟨z,e6,e4⟩:=bindO e4
          obtain ⟨τ3,e7,e6⟩:=bindO e6
          refine .inr ⟨hgo,fun σ3 H3=>∃ m3 st3 τ3,Sub m1 m3∧Tr H1 H3∧Rel X.K m3 st3 H3∧SlotOk X.K m3 H3 τ3 σ3∧M.loop p.1 (fun τ st d=>(M.setT t d τ).bind fun τ'=>(M.rn fns dl n).ex τ' st body) k (j + 1) τ3 st3 = some (o,st'),fun σ3 H3 w3=>⟨k,Nat.lt_succ_self k,w3⟩,fun x H2 hyl=>?_⟩
          obtain ⟨sm,ix⟩:=hy x H2 hyl
          have t2:=t2.trans (Tr.of_same sm)
          have R2:=R2.same sm
          have S2:=S2.mono (Sub.refl _) (Tr.of_same sm)
          refine gT_of ix S2 e7 fun σ3 S3=>?_
          refine ⟨m2,st2,_,z.1,z.2,R2,S3,e6,fun m3 H3 b3 t3 R3=>?_⟩
          cases hz : z.1 with
          | nx τ4 =>
            rw [hz] at e4
            exact fun σ4 S4=>⟨m3,z.2,τ4,b2.trans b3,t2.trans t3,R3,S4,e4⟩
          | ct τ4 =>
            rw [hz] at e4
            exact fun σ4 S4=>⟨m3,z.2,τ4,b2.trans b3,t2.trans t3,R3,S4,e4⟩
          | bk τ4 =>
            rw [hz] at e4
            cases e4
            exact fun σ4 S4=>S_nx post (b1.trans (b2.trans b3)) (t1.trans (t2.trans t3)) R3 S4
          | rt v =>
            rw [hz] at e4
            cases e4
            exact fun w iw=>post m3 H3 (b1.trans (b2.trans b3)) (t1.trans (t2.trans t3)) R3 w iw
  | brk =>
    refine ps_break.imp fun Dn σ H h=>?_
    obtain ⟨m,st,τ,o,st',R0,S0,e0,q⟩:=h
    cases e0
    exact q m H (Sub.refl m) (Tr.refl H) R0 _ S0
  | cnt =>
    refine ps_continue.imp fun Dn σ H h=>?_
    obtain ⟨m,st,τ,o,st',R0,S0,e0,q⟩:=h
    cases e0
    exact q m H (Sub.refl m) (Tr.refl H) R0 _ S0
  | pass =>
    refine ps_pass.imp fun Dn σ H h=>?_
    obtain ⟨m,st,τ,o,st',R0,S0,e0,q⟩:=h
    cases e0
    exact q m H (Sub.refl m) (Tr.refl H) R0 _ S0
theorem ss_ok (IH : ∀ j,j ≤ n→AllOk fns dl j) (G : Good fns dl c X) (hf : ∀ x,X.fn x = true) : ∀ {ss : List S} {ps : List Stmt},CkSs c ss ps→PSs X ps (tS X.K fun τ st=>M.exs (M.stepEx (M.rn fns dl n)) ss τ st)
  | _,_,.nil=>pss_nil.imp fun Dn σ H h=>by
    obtain ⟨m,st,τ,o,st',R0,S0,e0,q⟩:=h
    cases e0
    exact q m H (Sub.refl m) (Tr.refl H) R0 _ S0
  | _,_,.doc t=>(pss_cons ps_doc (ss_ok IH G hf t)).imp fun Dn σ H h=>h
  | _,_,.cons (s:=s) (ss:=ss) h t=>(pss_cons (s1_ok IH G hf h) (ss_ok IH G hf t)).imp fun Dn σ H hq=>by
    obtain ⟨m,st,τ,o,st',R0,S0,e0,q⟩:=hq
    obtain ⟨p,e1,e0⟩:=bindO e0
    refine ⟨m,st,τ,p.1,p.2,R0,S0,e1,fun m1 H1 b1 t1 R1=>?_⟩
    cases hp : p.1 with
    | nx τ1 =>
      rw [hp] at e0
      exact fun σ1 S1=>⟨m1,p.2,τ1,o,st',R1,S1,e0,q.mono b1 t1⟩
    | rt d =>
      rw [hp] at e0
      cases e0
      exact q m1 H1 b1 t1 R1
    | bk d =>
      rw [hp] at e0
      cases e0
      exact q m1 H1 b1 t1 R1
    | ct d =>
      rw [hp] at e0
      cases e0
      exact q m1 H1 b1 t1 R1
end
theorem allOk (fns : List Fn) (dl : Nat) : ∀ n j,j ≤ n→AllOk fns dl j:=by
  intro n
  induction n with
  | zero=>intro j h; rw [Nat.le_zero.mp h]; exact allOk_zero fns dl
  | succ n ih =>
    intro j h
    rcases Nat.lt_or_ge j (n + 1) with z | z
    · exact ih j (by omega)
    · have e : j = n + 1:=by omega
      subst e
      have A:=ih n (Nat.le_refl n)
      exact ⟨fun c X G e p h=>e_ok A G h,fun c X G e p h=>t_ok A G h,fun c X G e op ps pos h=>w_ok A G h,fun c X G hf ss ps h=>ss_ok ih G hf h⟩
structure FText (K : PySem.W.Frag) (mg : Str→Option Value) (fns : List Fn) (names : List Str) (glo : Glo) (f : Nat) (x : Str) : Prop where
  ex : ∃ (fa : Addr) (fd : FuncData) (st : Stmt) (N ps : List Str) (F : Fn),fns[f]? = some F∧Fun K x x st fa fd∧mg x = some (.ref fa)∧Binds K fd ps []∧FnScope N ps (defScope st)∧CkSs ⟨N,defScope st,names,glo⟩ F.body (defBody st)∧F.np = ps.length∧F.nl = N.length
theorem fun_ok {P : Program} {w : World} {K : PySem.W.Frag} {mg : Str→Option Value} {base : Heap} {fns : List Fn} {names : List Str} {glo : Glo} {n f : Nat} {x : Str} {fa : Addr} {fd : FuncData} {st : Stmt} {N ps : List Str} {F : Fn} (ih : FTab P w K mg base fns names n) (Mg : Mo K mg glo w.params)
    (hF : fns[f]? = some F) (hfun : Fun K x x st fa fd) (hsc : FnScope N ps (defScope st)) (hck : CkSs ⟨N,defScope st,names,glo⟩ F.body (defBody st)) (hnp : F.np = ps.length) (hnl : F.nl = N.length) : FnOk P w K mg base CX0 (n + 1) fa fd ps (spN K fns (n + 1) f):=by
  have unf : ∀ {ds : List D} {st0 st' : Store} {d : D},M.callD fns (n + 1) f ds st0 = some (d,st')→ds.length = F.np∧((M.Lv fns n).ex (ds.map some++List.replicate (F.nl - ds.length) none) st0 F.body).bind (fun p=>match p.1 with
      | .rt d=>some (d,p.2)
      | .nx _=>some (D.non,p.2)
      | _=>none) = some (d,st'):=fun {ds st0 st' d} e=>by
    have e : M.stepCall fns (M.Lv fns n) f ds st0 = some (d,st'):=e
    unfold M.stepCall at e
    rw [hF] at e
    dsimp only at e
    split at e
    · rename_i hl
      exact ⟨hl,e⟩
    · cases e
  refine hfun.ok hsc (fun vs H Q E h=>?_) (fun cdv A outer s H vs Q E hr h=>?_)
  · obtain ⟨m,st0,ds,d,st',_,ix,e,_⟩:=h
    rw [← ix.length,(unf e).1,hnp]
  · obtain ⟨m,st0,ds,d,st',R0,ix,e,q⟩:=h
    obtain ⟨hl,e⟩:=unf e
    obtain ⟨p,e1,e2⟩:=bindO e
    obtain ⟨k,e1⟩:=M.lim1_is e1
    have G : Good fns n ⟨N,defScope st,names,glo⟩ (cxOf CX0 P w K mg base N x (defScope st) fa cdv A outer s H E).nox:=⟨hr,rfl,rfl,rfl,hsc.nd,hsc.kind,ih,Mg,rfl⟩
    refine ⟨_,(allOk fns n k k (Nat.le_refl k)).s _ _ G (fun _=>rfl) F.body (defBody st) hck,?_⟩
    refine ⟨m,st0,ds.map some++List.replicate (F.nl - ds.length) none,p.1,p.2,R0,⟨?_,fun i d0 hi=>?_⟩,e1,fun m1 H1 b1 t1 R1=>?_⟩
    · unfold L2.start
      rw [List.length_append,List.length_append,List.length_map,List.length_map,List.length_replicate,List.length_replicate,hnl,ix.length]
    · unfold L2.start
      by_cases hlt : i < ds.length
      · rw [List.getElem?_append_left (by simpa using hlt),List.getElem?_map] at hi
        have e3 : ds[i]? = some d0:=by
          cases z : ds[i]? with
          | none=>rw [z] at hi; cases hi
          | some y=>rw [z] at hi; cases hi; rfl
        obtain ⟨v,e4,iv⟩:=ix.get e3
        refine ⟨v,?_,iv⟩
        rw [List.getElem?_append_left (by rw [List.length_map,← ix.length]; exact hlt),List.getElem?_map,e4]
        rfl
      · rw [List.getElem?_append_right (by simpa using hlt),List.getElem?_replicate] at hi
        split at hi <;> cases hi
    · cases hp : p.1 with
      | rt d1 =>
        rw [hp] at e2
        cases e2
        exact fun v iv=>q v m1 H1 b1 t1 R1 iv
      | nx τ1 =>
        rw [hp] at e2
        cases e2
        exact fun σ1 S1=>q _ m1 H1 b1 t1 R1 mkNon
      | bk d1=>rw [hp] at e2; cases e2
      | ct d1=>rw [hp] at e2; cases e2
theorem tab_ok {P : Program} {w : World} {K : PySem.W.Frag} {mg : Str→Option Value} {base : Heap} {fns : List Fn} {names : List Str} {glo : Glo} (T : ∀ f x,names[f]? = some x→FText K mg fns names glo f x) (Mg : Mo K mg glo w.params) :
    ∀ n,FTab P w K mg base fns names n:=by
  intro n
  induction n with
  | zero =>
    intro f x hx
    obtain ⟨fa,fd,st,N,ps,F,hF,hfun,hm,hb,hsc,hck,hnp,hnl⟩:=(T f x hx).ex
    refine ⟨fa,fd,ps,hm,?_,hfun.kp,hb⟩
    refine ⟨fun vs H Q E h=>?_,fun A outer s H args us vs Q E hr he hbb hv h=>?_⟩
    · obtain ⟨m,st,ds,d,st',_,_,e,_⟩:=h; cases e
    · obtain ⟨m,st,ds,d,st',_,_,e,_⟩:=h; cases e
  | succ n ih =>
    intro f x hx
    obtain ⟨fa,fd,st,N,ps,F,hF,hfun,hm,hb,hsc,hck,hnp,hnl⟩:=(T f x hx).ex
    exact ⟨fa,fd,ps,hm,fun_ok ih Mg hF hfun hsc hck hnp hnl,hfun.kp,hb⟩
def spLaw (K : PySem.W.Frag) : Sp:=fun vs H Q _=>∃ (a : Addr) (ns : List Int),vs = [.ref a]∧SqF K H a (ns.map V.int)∧ns.length ≤ 63∧∀ H',Q (.bl true) H'
theorem law_sp {K : PySem.W.Frag} {fns : List Fn} {n f : Nat} (h : ∀ ns : List Int,ns.length ≤ 63→∃ st',M.callD fns n f [.lst (ns.map D.int)] [] = some (.bl true,st')) (vs : List V) (H : Hp) (Q : VK) (E : XK) (q : spLaw K vs H Q E) : spN K fns n f vs H Q E:=by
  obtain ⟨a,ns,rfl,hS,hl,k⟩:=q
  obtain ⟨st',e⟩:=h ns hl
  refine ⟨[],[],[.lst (ns.map D.int)],.bl true,st',⟨rfl,fun l l' b c c' e1 e2 e3 e4 w w'=>?_,fun l c b e1 e2=>?_⟩,mkCons (mkLst hS (isDs_ints ns)) mkNil,e,fun v m' H' _ _ _ i=>?_⟩
  · simp at e3
  · simp at e1
  · rw [i.bl]; exact k H'
theorem only_sq {K : PySem.W.Frag} {H : Hp} {a : Addr} {xs : List V} (hO : Only H) (h : SqL K H a xs) : SqF K H a xs:=by
  rcases h with (h | ⟨o,h⟩) | h
  · rcases hO a with z | ⟨ob,ys,z⟩
    · rw [h] at z; cases z
    · rw [h] at z; cases z
  · exact .inl ⟨o,h⟩
  · exact .inr h
theorem walk_law {l : PySem.W.OpenLaw} {k : Nat} {q : Program} {loose : List Str} {XP : (Str→Option Value)→Heap→Prop} {YP : World→Heap→Prop} {d : DefRec} {K : Params→PySem.W.Frag} {x : Str} (hn : l.most = some 63) (hdf : d.params.defaults = []) (hr : Room k callerA)
    (hY : ∀ (w : World) (h : Heap),YP w h→(K w.params).In h)
    (F : ∀ (w : World) (mg : Str→Option Value) (fa : Addr) (h : Heap),(K w.params).In h→h.Ns mainGlobals mg→mg d.name = some (.ref fa) →
      ∃ fd : FuncData,(∀ (s : Shared) (u : Value),BindsTo s fd ⟨[u],[]⟩ [(x,u)])∧∀ base : Heap,(K w.params).In base→base.Ns mainGlobals mg→FnOk l.prog w (K w.params) mg base CX0 k fa fd [x] (spLaw (K w.params))) :
    PySem.W.WalkO q loose XP YP l.row.toRowW d [] (fun f vs=>PySem.call f vs) :=
  L2.walk_of (n:=63) (k:=k) (x:=x) (CX:=fun _=>CX0) (sp:=fun w=>spLaw (K w.params)) hn (by decide) hdf hr hY F (fun _ _ a ns hl hO hS=>⟨a,ns,rfl,only_sq hO hS,hl,fun _=>rfl⟩) fun _ _ _ _ _ z=>z
def srcOk (sr : List (Option Nat)) (N cN : List Str) (scope : Scope) : Bool:=(List.range sr.length).all fun j=>match sr[j]? with
  | some (some i)=>match N[j]? with
    | some x=>cN[i]? == some x && scope.names.lookup x == some .free
    | none=>false
  | _=>true
theorem src_of {sr : List (Option Nat)} {N cN : List Str} {scope : Scope} (h : srcOk sr N cN scope = true) : ∀ (j i : Nat),sr[j]? = some (some i)→∃ x,N[j]? = some x∧cN[i]? = some x∧scope.names.lookup x = some .free:=by
  intro j i e
  unfold srcOk at h
  rw [List.all_eq_true] at h
  have:=h j (List.mem_range.mpr (List.getElem?_eq_some_iff.mp e).1)
  rw [e] at this
  dsimp only at this
  split at this
  · rename_i x hx
    rw [Bool.and_eq_true,beq_iff_eq,beq_iff_eq] at this
    exact ⟨x,hx,this.1,this.2⟩
  · cases this
theorem swaps_or (elt : Expr) (gs : List Comprehension) (sc : Scope) (q : Pos) (t : Str) (p : Pos) (line : Nat) (env : Env) : swapsWith (.ListComp elt gs sc q) (some (.Name t p)) line env = pure false∨swapsWith (.ListComp elt gs sc q) (some (.Name t p)) line env = pure true:=by
  have e : swapsWith (.ListComp elt gs sc q) (some (.Name t p)) line env = pure (env.blockKind == .function && env.kindOf t == some .local && p.line == q.line && !(sc.names.any fun (n,k)=>n == t && (k == .local || k == .cell))):=rfl
  rw [e]
  cases (env.blockKind == .function && env.kindOf t == some .local && p.line == q.line && !(sc.names.any fun (n,k)=>n == t && (k == .local || k == .cell))) with
  | false=>exact .inl rfl
  | true=>exact .inr rfl
end MS
end
namespace K33
open PySem PySem.Spec PyProof.Rows L2 MS
open M (D Cell Store Sl E S T Src Fn Out R)
def top (i : Nat) : Stmt:=PySem.Challenge.pw_dipright_k33_papers_written_and_read.main.body.getD i (.Pass ⟨0,0,0,0⟩)
def names : List Str:=["all_figures","number","read_numbers","shown_others","shown_paper","parted_at","read_other","read_others","read_way","read_held","read_paper","_law_draw","_law_same","_law_great","_law_flat_paper","_law_loose_paper","law"]
def glo : Glo:=⟨[("FIGURES",(.str (PySem.Str.ofString "0123456789"))),("THINGS",(.int 3)),("WORDS",(.tup [(.str (PySem.Str.ofString "given")),(.str (PySem.Str.ofString "fallen")),(.str (PySem.Str.ofString "unvested")),(.str (PySem.Str.ofString "ground")),(.str (PySem.Str.ofString "younger"))]))],[]⟩
abbrev s_all_figures : Stmt:=top 5
theorem sc_all_figures : FnScope ["text"] ["text"] (defScope s_all_figures):=⟨rfl,rfl,rfl,by decide +kernel,rfl,by decide +kernel,by decide +kernel⟩
theorem ck_all_figures : CkSs ⟨["text"],defScope s_all_figures,names,glo⟩ b_all_figures (defBody s_all_figures) :=
    (.cons (.ret (.and2 (.cmp (.var rfl (.inl rfl) rfl rfl) .str rfl) (.bcall rfl (.cons (.gc rfl (fun _ z=>nomatch z) (.comp (N:=["sign"]) rfl (by decide +kernel) (by decide +kernel) (by decide +kernel) rfl (src_of (by decide +kernel)) (by decide +kernel) (fun _ _=>rfl) (.seq (.var rfl (.inl rfl) rfl rfl)) (.var rfl (.inl rfl)) (by decide +kernel) (.cmp (.var rfl (.inl rfl) rfl rfl) (.glo rfl (.head _) rfl) rfl))) .nil))))
    .nil)
abbrev s_number : Stmt:=top 6
theorem sc_number : FnScope ["text"] ["text"] (defScope s_number):=⟨rfl,rfl,rfl,by decide +kernel,rfl,by decide +kernel,by decide +kernel⟩
theorem ck_number : CkSs ⟨["text"],defScope s_number,names,glo⟩ b_number (defBody s_number) :=
    (.cons (.ite (.not (.gc rfl (fun _ z=>nomatch z) (.call rfl rfl rfl (.cons (.var rfl (.inl rfl) rfl rfl) .nil)))) (.cons (.ret .non)
    .nil) .nil)
    (.cons (.ite (.and2 (.cmp (.idx (.var rfl (.inl rfl) rfl rfl) .int (fun _ _=>rfl)) .str rfl) (.cmp (.var rfl (.inl rfl) rfl rfl) .str rfl)) (.cons (.ret .non)
    .nil) .nil)
    (.cons (.ret (.bcall rfl (.cons (.var rfl (.inl rfl) rfl rfl) .nil)))
    .nil)))
abbrev s_read_numbers : Stmt:=top 7
theorem sc_read_numbers : FnScope ["texts","numbers"] ["texts"] (defScope s_read_numbers):=⟨rfl,rfl,rfl,by decide +kernel,rfl,by decide +kernel,by decide +kernel⟩
theorem ck_read_numbers : CkSs ⟨["texts","numbers"],defScope s_read_numbers,names,glo⟩ b_read_numbers (defBody s_read_numbers) :=
    (.cons (.setC rfl (.inl rfl) (.gc rfl (fun _ z=>nomatch z) (.comp (N:=["text"]) rfl (by decide +kernel) (by decide +kernel) (by decide +kernel) rfl (src_of (by decide +kernel)) (by decide +kernel) (fun _ _=>rfl) (.seq (.var rfl (.inl rfl) rfl rfl)) (.var rfl (.inl rfl)) (by decide +kernel) (.gc rfl (fun _ z=>nomatch z) (.call rfl rfl rfl (.cons (.var rfl (.inl rfl) rfl rfl) .nil))))) ⟨_,_,_,_,rfl⟩ (fun env _=>swaps_or _ _ _ _ _ _ _ env))
    (.cons (.ite (.cmp .non (.var rfl (.inl rfl) rfl rfl) rfl) (.cons .rais
    .nil) .nil)
    (.cons (.ret (.var rfl (.inl rfl) rfl rfl))
    .nil)))
abbrev s_shown_others : Stmt:=top 11
theorem sc_shown_others : FnScope ["others","texts","other"] ["others"] (defScope s_shown_others):=⟨rfl,rfl,rfl,by decide +kernel,rfl,by decide +kernel,by decide +kernel⟩
theorem ck_shown_others : CkSs ⟨["others","texts","other"],defScope s_shown_others,names,glo⟩ b_shown_others (defBody s_shown_others) :=
    (.cons (.set rfl (.inl rfl) (.lst (.cons .str .nil)) (fun _=>rfl))
    (.cons (.forr (.var rfl (.inl rfl)) (.seq (.var rfl (.inl rfl) rfl rfl)) (fun _ _=>rfl) (.cons (.expr (.extend (.var rfl (.inl rfl) rfl rfl) (.gc rfl (fun _ z=>nomatch z) (.comp (N:=["thing"]) rfl (by decide +kernel) (by decide +kernel) (by decide +kernel) rfl (src_of (by decide +kernel)) (by decide +kernel) (fun _ _=>rfl) (.seq (.var rfl (.inl rfl) rfl rfl)) (.var rfl (.inl rfl)) (by decide +kernel) (.bcall rfl (.cons (.var rfl (.inl rfl) rfl rfl) .nil)))) rfl) (fun _=>rfl))
    .nil))
    (.cons (.ret (.var rfl (.inl rfl) rfl rfl))
    .nil)))
abbrev s_shown_paper : Stmt:=top 12
theorem sc_shown_paper : FnScope ["paper","way","years"] ["paper"] (defScope s_shown_paper):=⟨rfl,rfl,rfl,by decide +kernel,rfl,by decide +kernel,by decide +kernel⟩
theorem ck_shown_paper : CkSs ⟨["paper","way","years"],defScope s_shown_paper,names,glo⟩ b_shown_paper (defBody s_shown_paper) :=
    (.cons (.ite (.cmp (.idx (.var rfl (.inl rfl) rfl rfl) .int (fun _ _=>rfl)) .str rfl) (.cons (.ret (.join .str (.gc rfl (fun _ z=>nomatch z) (.bin (.gc rfl (fun _ z=>nomatch z) (.lst (.cons .str .nil))) (.gc rfl (fun _ z=>nomatch z) (.call rfl rfl rfl (.cons (.idx (.var rfl (.inl rfl) rfl rfl) .int (fun _ _=>rfl)) .nil))))) (fun _=>rfl) rfl))
    .nil) .nil)
    (.cons (.setC rfl (.inl rfl) (.gc rfl (fun _ z=>nomatch z) (.comp (N:=["thing"]) rfl (by decide +kernel) (by decide +kernel) (by decide +kernel) rfl (src_of (by decide +kernel)) (by decide +kernel) (fun _ _=>rfl) (.seq (.idx (.var rfl (.inl rfl) rfl rfl) .int (fun _ _=>rfl))) (.var rfl (.inl rfl)) (by decide +kernel) (.bcall rfl (.cons (.var rfl (.inl rfl) rfl rfl) .nil)))) ⟨_,_,_,_,rfl⟩ (fun env _=>swaps_or _ _ _ _ _ _ _ env))
    (.cons (.setC rfl (.inl rfl) (.gc rfl (fun _ z=>nomatch z) (.comp (N:=["year"]) rfl (by decide +kernel) (by decide +kernel) (by decide +kernel) rfl (src_of (by decide +kernel)) (by decide +kernel) (fun _ _=>rfl) (.seq (.idx (.var rfl (.inl rfl) rfl rfl) .int (fun _ _=>rfl))) (.var rfl (.inl rfl)) (by decide +kernel) (.bcall rfl (.cons (.var rfl (.inl rfl) rfl rfl) .nil)))) ⟨_,_,_,_,rfl⟩ (fun env _=>swaps_or _ _ _ _ _ _ _ env))
    (.cons (.ret (.join .str (.gc rfl (fun _ z=>nomatch z) (.bin (.gc rfl (fun _ z=>nomatch z) (.bin (.gc rfl (fun _ z=>nomatch z) (.bin (.gc rfl (fun _ z=>nomatch z) (.bin (.gc rfl (fun _ z=>nomatch z) (.lst (.cons .str (.cons (.bcall rfl (.cons (.idx (.var rfl (.inl rfl) rfl rfl) .int (fun _ _=>rfl)) .nil)) .nil)))) (.var rfl (.inl rfl) rfl rfl))) (.gc rfl (fun _ z=>nomatch z) (.lst (.cons .str .nil))))) (.var rfl (.inl rfl) rfl rfl))) (.gc rfl (fun _ z=>nomatch z) (.call rfl rfl rfl (.cons (.idx (.var rfl (.inl rfl) rfl rfl) .int (fun _ _=>rfl)) .nil))))) (fun _=>rfl) rfl))
    .nil))))
abbrev s_parted_at : Stmt:=top 13
theorem sc_parted_at : FnScope ["texts","word","place"] ["texts","word"] (defScope s_parted_at):=⟨rfl,rfl,rfl,by decide +kernel,rfl,by decide +kernel,by decide +kernel⟩
theorem ck_parted_at : CkSs ⟨["texts","word","place"],defScope s_parted_at,names,glo⟩ b_parted_at (defBody s_parted_at) :=
    (.cons (.ite (.cmp (.var rfl (.inl rfl) rfl rfl) (.var rfl (.inl rfl) rfl rfl) rfl) (.cons .rais
    .nil) .nil)
    (.cons (.set rfl (.inl rfl) (.index (.var rfl (.inl rfl) rfl rfl) (.var rfl (.inl rfl) rfl rfl) (fun _=>rfl) rfl) (fun _=>rfl))
    (.cons (.ret (.tup (.cons (.gc rfl (fun _ z=>nomatch z) (.sli (.var rfl (.inl rfl) rfl rfl) .none (.some (.var rfl (.inl rfl) rfl rfl)))) (.cons (.gc rfl (fun _ z=>nomatch z) (.sli (.var rfl (.inl rfl) rfl rfl) (.some (.bin (.var rfl (.inl rfl) rfl rfl) .int)) .none)) .nil))))
    .nil)))
abbrev s_read_other : Stmt:=top 14
theorem sc_read_other : FnScope ["texts","numbers"] ["texts"] (defScope s_read_other):=⟨rfl,rfl,rfl,by decide +kernel,rfl,by decide +kernel,by decide +kernel⟩
theorem ck_read_other : CkSs ⟨["texts","numbers"],defScope s_read_other,names,glo⟩ b_read_other (defBody s_read_other) :=
    (.cons (.ite (.cmp (.idx (.var rfl (.inl rfl) rfl rfl) .int (fun _ _=>rfl)) (.glo rfl (.tail _ (.tail _ (.head _))) rfl) rfl) (.cons .rais
    .nil) .nil)
    (.cons (.set rfl (.inl rfl) (.gc rfl (fun _ z=>nomatch z) (.call rfl rfl rfl (.cons (.gc rfl (fun _ z=>nomatch z) (.lst (.cons (.idx (.var rfl (.inl rfl) rfl rfl) .int (fun _ _=>rfl)) (.cons (.idx (.var rfl (.inl rfl) rfl rfl) .int (fun _ _=>rfl)) .nil)))) .nil))) (fun _=>rfl))
    (.cons (.ret (.tup (.cons (.idx (.var rfl (.inl rfl) rfl rfl) .int (fun _ _=>rfl)) (.cons (.idx (.var rfl (.inl rfl) rfl rfl) .int (fun _ _=>rfl)) (.cons (.idx (.var rfl (.inl rfl) rfl rfl) .int (fun _ _=>rfl)) .nil)))))
    .nil)))
abbrev s_read_others : Stmt:=top 15
theorem sc_read_others : FnScope ["texts"] ["texts"] (defScope s_read_others):=⟨rfl,rfl,rfl,by decide +kernel,rfl,by decide +kernel,by decide +kernel⟩
theorem ck_read_others : CkSs ⟨["texts"],defScope s_read_others,names,glo⟩ b_read_others (defBody s_read_others) :=
    (.cons (.ite (.cmp (.bin (.bcall rfl (.cons (.var rfl (.inr (.inl rfl)) rfl rfl) .nil)) (.glo rfl (.tail _ (.head _)) rfl)) .int rfl) (.cons .rais
    .nil) .nil)
    (.cons (.ret (.bcall rfl (.cons (.gc rfl (fun _ z=>nomatch z) (.comp (N:=["place","texts"]) rfl (by decide +kernel) (by decide +kernel) (by decide +kernel) rfl (src_of (by decide +kernel)) (by decide +kernel) (fun _ _=>rfl) (.rng3 rfl .int (.bcall rfl (.cons (.var rfl (.inr (.inl rfl)) rfl rfl) .nil)) (.glo rfl (.tail _ (.head _)) rfl)) (.var rfl (.inl rfl)) (by decide +kernel) (.gc rfl (fun _ z=>nomatch z) (.call rfl rfl rfl (.cons (.gc rfl (fun _ z=>nomatch z) (.sli (.var rfl (.inr (.inl rfl)) rfl rfl) (.some (.var rfl (.inl rfl) rfl rfl)) (.some (.bin (.var rfl (.inl rfl) rfl rfl) (.glo rfl (.tail _ (.head _)) rfl))))) .nil))))) .nil)))
    .nil))
abbrev s_read_way : Stmt:=top 16
theorem sc_read_way : FnScope ["texts"] ["texts"] (defScope s_read_way):=⟨rfl,rfl,rfl,by decide +kernel,rfl,by decide +kernel,by decide +kernel⟩
theorem ck_read_way : CkSs ⟨["texts"],defScope s_read_way,names,glo⟩ b_read_way (defBody s_read_way) :=
    (.cons (.ite (.cmp (.var rfl (.inl rfl) rfl rfl) (.gc rfl (fun _ z=>nomatch z) (.lst (.cons .str .nil))) rfl) (.cons (.ret (.tup (.cons .str .nil)))
    .nil) .nil)
    (.cons (.ite (.or2 (.cmp (.gc rfl (fun _ z=>nomatch z) (.sli (.var rfl (.inl rfl) rfl rfl) .none (.some .int))) (.gc rfl (fun _ z=>nomatch z) (.lst (.cons .str .nil))) rfl) (.cmp (.bcall rfl (.cons (.var rfl (.inl rfl) rfl rfl) .nil)) .int rfl)) (.cons .rais
    .nil) .nil)
    (.cons (.ret (.bin (.tup (.cons .str .nil)) (.bcall rfl (.cons (.gc rfl (fun _ z=>nomatch z) (.call rfl rfl rfl (.cons (.gc rfl (fun _ z=>nomatch z) (.sli (.var rfl (.inl rfl) rfl rfl) (.some .int) .none)) .nil))) .nil))))
    .nil)))
abbrev s_read_held : Stmt:=top 17
theorem sc_read_held : FnScope ["texts","others","parts","head","claim"] ["texts","others"] (defScope s_read_held):=⟨rfl,rfl,rfl,by decide +kernel,rfl,by decide +kernel,by decide +kernel⟩
theorem ck_read_held : CkSs ⟨["texts","others","parts","head","claim"],defScope s_read_held,names,glo⟩ b_read_held (defBody s_read_held) :=
    (.cons (.set rfl (.inl rfl) (.gc rfl (fun _ z=>nomatch z) (.call rfl rfl rfl (.cons (.var rfl (.inl rfl) rfl rfl) (.cons .str .nil)))) (fun _=>rfl))
    (.cons (.set rfl (.inl rfl) (.idx (.var rfl (.inl rfl) rfl rfl) .int (fun _ _=>rfl)) (fun _=>rfl))
    (.cons (.ite (.or2 (.cmp (.gc rfl (fun _ z=>nomatch z) (.sli (.var rfl (.inl rfl) rfl rfl) .none (.some .int))) (.gc rfl (fun _ z=>nomatch z) (.lst (.cons .str .nil))) rfl) (.cmp (.bcall rfl (.cons (.var rfl (.inl rfl) rfl rfl) .nil)) .int rfl)) (.cons .rais
    .nil) .nil)
    (.cons (.set rfl (.inl rfl) (.idx (.gc rfl (fun _ z=>nomatch z) (.call rfl rfl rfl (.cons (.gc rfl (fun _ z=>nomatch z) (.sli (.var rfl (.inl rfl) rfl rfl) (.some .int) (.some .int))) .nil))) .int (fun _ _=>rfl)) (fun _=>rfl))
    (.cons (.ret (.tup (.cons .str (.cons (.var rfl (.inl rfl) rfl rfl) (.cons (.gc rfl (fun _ z=>nomatch z) (.call rfl rfl rfl (.cons (.gc rfl (fun _ z=>nomatch z) (.sli (.var rfl (.inl rfl) rfl rfl) (.some .int) .none)) .nil))) (.cons (.bcall rfl (.cons (.gc rfl (fun _ z=>nomatch z) (.call rfl rfl rfl (.cons (.idx (.var rfl (.inl rfl) rfl rfl) .int (fun _ _=>rfl)) .nil))) .nil)) (.cons (.var rfl (.inl rfl) rfl rfl) .nil)))))))
    .nil)))))
abbrev s_read_paper : Stmt:=top 18
theorem sc_read_paper : FnScope ["text","parts","others"] ["text"] (defScope s_read_paper):=⟨rfl,rfl,rfl,by decide +kernel,rfl,by decide +kernel,by decide +kernel⟩
theorem ck_read_paper : CkSs ⟨["text","parts","others"],defScope s_read_paper,names,glo⟩ b_read_paper (defBody s_read_paper) :=
    (.cons (.set rfl (.inl rfl) (.gc rfl (fun _ z=>nomatch z) (.call rfl rfl rfl (.cons (.gc rfl (fun _ z=>nomatch z) (.split (.var rfl (.inl rfl) rfl rfl) .str (fun _=>rfl) rfl)) (.cons .str .nil)))) (fun _=>rfl))
    (.cons (.set rfl (.inl rfl) (.gc rfl (fun _ z=>nomatch z) (.call rfl rfl rfl (.cons (.idx (.var rfl (.inl rfl) rfl rfl) .int (fun _ _=>rfl)) .nil))) (fun _=>rfl))
    (.cons (.ite (.cmp (.idx (.var rfl (.inl rfl) rfl rfl) .int (fun _ _=>rfl)) (.gc rfl (fun _ z=>nomatch z) (.lst (.cons .str .nil))) rfl) (.cons (.ret (.tup (.cons .str (.cons (.var rfl (.inl rfl) rfl rfl) .nil))))
    .nil) .nil)
    (.cons (.ret (.call rfl rfl rfl (.cons (.idx (.var rfl (.inl rfl) rfl rfl) .int (fun _ _=>rfl)) (.cons (.var rfl (.inl rfl) rfl rfl) .nil))))
    .nil))))
abbrev s_law_draw : Stmt:=top 20
theorem sc_law_draw : FnScope ["_law_script","_law_k","_law_j","_law_many","_law_cell","_law_turn","_law_rest","_law_step","_law_one","_law_two"] ["_law_script","_law_k","_law_j","_law_many"] (defScope s_law_draw):=⟨rfl,rfl,rfl,by decide +kernel,rfl,by decide +kernel,by decide +kernel⟩
theorem ck_law_draw : CkSs ⟨["_law_script","_law_k","_law_j","_law_many","_law_cell","_law_turn","_law_rest","_law_step","_law_one","_law_two"],defScope s_law_draw,names,glo⟩ b_law_draw (defBody s_law_draw) :=
    (.cons (.set rfl (.inl rfl) .int (fun _=>rfl))
    (.cons (.set rfl (.inl rfl) .int (fun _=>rfl))
    (.cons (.ite (.cmp (.bcall rfl (.cons (.var rfl (.inl rfl) rfl rfl) .nil)) .int rfl) (.cons (.set rfl (.inl rfl) (.idx (.var rfl (.inl rfl) rfl rfl) (.bin (.var rfl (.inl rfl) rfl rfl) (.bcall rfl (.cons (.var rfl (.inl rfl) rfl rfl) .nil))) (fun _ _=>rfl)) (fun _=>rfl))
    (.cons (.set rfl (.inl rfl) (.bin (.var rfl (.inl rfl) rfl rfl) (.bcall rfl (.cons (.var rfl (.inl rfl) rfl rfl) .nil))) (fun _=>rfl))
    .nil)) .nil)
    (.cons (.set rfl (.inl rfl) (.var rfl (.inl rfl) rfl rfl) (fun _=>rfl))
    (.cons (.forr (.var rfl (.inl rfl)) (.rng1 rfl (.var rfl (.inl rfl) rfl rfl)) (fun _ _=>rfl) (.cons (.set rfl (.inl rfl) (.bin (.var rfl (.inl rfl) rfl rfl) (.bin .int .int)) (fun _=>rfl))
    .nil))
    (.cons (.ite (.andN (.cmp (.var rfl (.inl rfl) rfl rfl) .int rfl) (.and2 (.cmp (.var rfl (.inl rfl) rfl rfl) (.bin .int .int) rfl) (.cmp (.var rfl (.inl rfl) rfl rfl) .int rfl))) (.cons (.ret (.bin (.bin (.var rfl (.inl rfl) rfl rfl) (.bin .int .int)) (.var rfl (.inl rfl) rfl rfl)))
    .nil) .nil)
    (.cons (.set rfl (.inl rfl) (.bin (.bin (.bin (.bin (.bin (.var rfl (.inl rfl) rfl rfl) .int) (.bin (.var rfl (.inl rfl) rfl rfl) .int)) (.bin (.var rfl (.inl rfl) rfl rfl) .int)) .int) .int) (fun _=>rfl))
    (.cons (.set rfl (.inl rfl) (.bin (.bin (.bin (.var rfl (.inl rfl) rfl rfl) .int) (.bin (.var rfl (.inl rfl) rfl rfl) .int)) .int) (fun _=>rfl))
    (.cons (.set rfl (.inl rfl) (.bin (.bin (.bin (.var rfl (.inl rfl) rfl rfl) (.bin (.bin (.var rfl (.inl rfl) rfl rfl) .int) .int)) (.var rfl (.inl rfl) rfl rfl)) .int) (fun _=>rfl))
    (.cons (.ret (.bin (.bin (.bin (.bin (.bin (.var rfl (.inl rfl) rfl rfl) .int) (.bin (.var rfl (.inl rfl) rfl rfl) .int)) (.bin (.var rfl (.inl rfl) rfl rfl) .int)) .int) (.var rfl (.inl rfl) rfl rfl)))
    .nil))))))))))
abbrev s_law_same : Stmt:=top 21
theorem sc_law_same : FnScope ["_law_found","_law_due","_law_like"] ["_law_found","_law_due"] (defScope s_law_same):=⟨rfl,rfl,rfl,by decide +kernel,rfl,by decide +kernel,by decide +kernel⟩
theorem ck_law_same : CkSs ⟨["_law_found","_law_due","_law_like"],defScope s_law_same,names,glo⟩ b_law_same (defBody s_law_same) :=
    (.cons (.ite (.isiN (by decide) rfl (.cons (by decide) rfl (.cons (by decide) rfl .nil)) (.var rfl (.inr (.inl rfl)) rfl rfl)) (.cons (.ite (.or2 (.not (.isiN (by decide) rfl (.cons (by decide) rfl (.cons (by decide) rfl .nil)) (.var rfl (.inr (.inl rfl)) rfl rfl))) (.cmp (.bcall rfl (.cons (.var rfl (.inr (.inl rfl)) rfl rfl) .nil)) (.bcall rfl (.cons (.var rfl (.inr (.inl rfl)) rfl rfl) .nil)) rfl)) (.cons (.ret .bl)
    .nil) .nil)
    (.cons (.set rfl (.inl rfl) (.bcall rfl (.cons (.gc rfl (fun _ z=>nomatch z) (.comp (N:=["_law_k","_law_found","_law_due"]) rfl (by decide +kernel) (by decide +kernel) (by decide +kernel) rfl (src_of (by decide +kernel)) (by decide +kernel) (fun _ _=>rfl) (.rng1 rfl (.bcall rfl (.cons (.var rfl (.inr (.inl rfl)) rfl rfl) .nil))) (.var rfl (.inl rfl)) (by decide +kernel) (.gc rfl (fun _ z=>nomatch z) (.call rfl rfl rfl (.cons (.idx (.var rfl (.inr (.inl rfl)) rfl rfl) (.var rfl (.inl rfl) rfl rfl) (fun _ _=>rfl)) (.cons (.idx (.var rfl (.inr (.inl rfl)) rfl rfl) (.var rfl (.inl rfl) rfl rfl) (fun _ _=>rfl)) .nil)))))) .nil)) (fun _=>rfl))
    (.cons (.ret (.and2 (.var rfl (.inl rfl) rfl rfl) (.cmp (.isi1 rfl (by decide) rfl (.var rfl (.inr (.inl rfl)) rfl rfl)) (.isi1 rfl (by decide) rfl (.var rfl (.inr (.inl rfl)) rfl rfl)) rfl)))
    .nil))) .nil)
    (.cons (.set rfl (.inl rfl) (.cmp (.isi1 rfl (by decide) rfl (.var rfl (.inr (.inl rfl)) rfl rfl)) (.isi1 rfl (by decide) rfl (.var rfl (.inr (.inl rfl)) rfl rfl)) rfl) (fun _=>rfl))
    (.cons (.set rfl (.inl rfl) (.and2 (.var rfl (.inl rfl) rfl rfl) (.cmp (.isi1 rfl (by decide) rfl (.var rfl (.inr (.inl rfl)) rfl rfl)) (.isi1 rfl (by decide) rfl (.var rfl (.inr (.inl rfl)) rfl rfl)) rfl)) (fun _=>rfl))
    (.cons (.ret (.andN (.var rfl (.inl rfl) rfl rfl) (.and2 (.cmp (.isi1 rfl (by decide) rfl (.var rfl (.inr (.inl rfl)) rfl rfl)) (.isi1 rfl (by decide) rfl (.var rfl (.inr (.inl rfl)) rfl rfl)) rfl) (.cmp (.var rfl (.inr (.inl rfl)) rfl rfl) (.var rfl (.inr (.inl rfl)) rfl rfl) rfl))))
    .nil))))
abbrev s_law_great : Stmt:=top 22
theorem sc_law_great : FnScope ["_law_script","_law_k","_law_j","_law_size","_law_many"] ["_law_script","_law_k","_law_j"] (defScope s_law_great):=⟨rfl,rfl,rfl,by decide +kernel,rfl,by decide +kernel,by decide +kernel⟩
theorem ck_law_great : CkSs ⟨["_law_script","_law_k","_law_j","_law_size","_law_many"],defScope s_law_great,names,glo⟩ b_law_great (defBody s_law_great) :=
    (.cons (.set rfl (.inl rfl) (.idx (.gc rfl (fun _ z=>nomatch z) (.lst (.cons .int (.cons .int (.cons .int (.cons (.bin .int .int) .nil)))))) (.gc rfl (fun _ z=>nomatch z) (.call rfl rfl rfl (.cons (.var rfl (.inl rfl) rfl rfl) (.cons (.var rfl (.inl rfl) rfl rfl) (.cons (.var rfl (.inl rfl) rfl rfl) (.cons .int .nil)))))) (fun _ _=>rfl)) (fun _=>rfl))
    (.cons (.set rfl (.inl rfl) (.gc rfl (fun _ z=>nomatch z) (.call rfl rfl rfl (.cons (.var rfl (.inl rfl) rfl rfl) (.cons (.var rfl (.inl rfl) rfl rfl) (.cons (.bin (.var rfl (.inl rfl) rfl rfl) .int) (.cons (.var rfl (.inl rfl) rfl rfl) .nil)))))) (fun _=>rfl))
    (.cons (.ite (.cmp (.gc rfl (fun _ z=>nomatch z) (.call rfl rfl rfl (.cons (.var rfl (.inl rfl) rfl rfl) (.cons (.var rfl (.inl rfl) rfl rfl) (.cons (.bin (.var rfl (.inl rfl) rfl rfl) .int) (.cons .int .nil)))))) .int rfl) (.cons (.ret (.bin (.bin (.var rfl (.inl rfl) rfl rfl) (.bin .int .int)) (.gc rfl (fun _ z=>nomatch z) (.call rfl rfl rfl (.cons (.var rfl (.inl rfl) rfl rfl) (.cons (.var rfl (.inl rfl) rfl rfl) (.cons (.bin (.var rfl (.inl rfl) rfl rfl) .int) (.cons (.bin .int .int) .nil))))))))
    .nil) .nil)
    (.cons (.ret (.var rfl (.inl rfl) rfl rfl))
    .nil))))
abbrev s_law_flat_paper : Stmt:=top 23
theorem sc_law_flat_paper : FnScope ["_law_sheet","_law_words","_law_claim","_law_word","_law_day"] ["_law_sheet"] (defScope s_law_flat_paper):=⟨rfl,rfl,rfl,by decide +kernel,rfl,by decide +kernel,by decide +kernel⟩
theorem ck_law_flat_paper : CkSs ⟨["_law_sheet","_law_words","_law_claim","_law_word","_law_day"],defScope s_law_flat_paper,names,glo⟩ b_law_flat_paper (defBody s_law_flat_paper) :=
    (.cons (.set rfl (.inl rfl) (.lst (.cons (.idx (.var rfl (.inl rfl) rfl rfl) .int (fun _ _=>rfl)) .nil)) (fun _=>rfl))
    (.cons (.ite (.cmp (.idx (.var rfl (.inl rfl) rfl rfl) .int (fun _ _=>rfl)) .str rfl) (.cons (.set rfl (.inl rfl) (.bin (.gc rfl (fun _ z=>nomatch z) (.bin (.var rfl (.inl rfl) rfl rfl) (.gc rfl (fun _ z=>nomatch z) (.lst (.cons (.bcall rfl (.cons (.idx (.var rfl (.inl rfl) rfl rfl) .int (fun _ _=>rfl)) .nil)) .nil))))) (.gc rfl (fun _ z=>nomatch z) (.comp (N:=["_law_thing"]) rfl (by decide +kernel) (by decide +kernel) (by decide +kernel) rfl (src_of (by decide +kernel)) (by decide +kernel) (fun _ _=>rfl) (.seq (.idx (.var rfl (.inl rfl) rfl rfl) .int (fun _ _=>rfl))) (.var rfl (.inl rfl)) (by decide +kernel) (.bcall rfl (.cons (.var rfl (.inl rfl) rfl rfl) .nil))))) (fun _=>rfl))
    (.cons (.set rfl (.inl rfl) (.bin (.gc rfl (fun _ z=>nomatch z) (.bin (.var rfl (.inl rfl) rfl rfl) (.gc rfl (fun _ z=>nomatch z) (.lst (.cons .str .nil))))) (.gc rfl (fun _ z=>nomatch z) (.comp (N:=["_law_year"]) rfl (by decide +kernel) (by decide +kernel) (by decide +kernel) rfl (src_of (by decide +kernel)) (by decide +kernel) (fun _ _=>rfl) (.seq (.idx (.var rfl (.inl rfl) rfl rfl) .int (fun _ _=>rfl))) (.var rfl (.inl rfl)) (by decide +kernel) (.bcall rfl (.cons (.var rfl (.inl rfl) rfl rfl) .nil))))) (fun _=>rfl))
    .nil)) .nil)
    (.cons (.expr (.append (.var rfl (.inl rfl) rfl rfl) .str rfl) (fun _=>rfl))
    (.cons (.forr (.tup (.cons rfl (.inl rfl) (.cons rfl (.inl rfl) (.cons rfl (.inl rfl) .nil)))) (.seq (.idx (.var rfl (.inl rfl) rfl rfl) (.neg .int) (fun _ _=>rfl))) (fun _ _=>rfl) (.cons (.set rfl (.inl rfl) (.bin (.var rfl (.inl rfl) rfl rfl) (.gc rfl (fun _ z=>nomatch z) (.lst (.cons (.bcall rfl (.cons (.var rfl (.inl rfl) rfl rfl) .nil)) (.cons (.var rfl (.inl rfl) rfl rfl) (.cons (.bcall rfl (.cons (.var rfl (.inl rfl) rfl rfl) .nil)) .nil)))))) (fun _=>rfl))
    .nil))
    (.cons (.ret (.join .str (.var rfl (.inl rfl) rfl rfl) (fun _=>rfl) rfl))
    .nil)))))
abbrev s_law_loose_paper : Stmt:=top 24
theorem sc_law_loose_paper : FnScope ["_law_script","_law_k","_law_others","_law_at","_law_word","_law_way","_law_years"] ["_law_script","_law_k"] (defScope s_law_loose_paper):=⟨rfl,rfl,rfl,by decide +kernel,rfl,by decide +kernel,by decide +kernel⟩
theorem ck_law_loose_paper : CkSs ⟨["_law_script","_law_k","_law_others","_law_at","_law_word","_law_way","_law_years"],defScope s_law_loose_paper,names,glo⟩ b_law_loose_paper (defBody s_law_loose_paper) :=
    (.cons (.set rfl (.inl rfl) (.lst .nil) (fun _=>rfl))
    (.cons (.forr (.var rfl (.inl rfl)) (.rng1 rfl (.gc rfl (fun _ z=>nomatch z) (.call rfl rfl rfl (.cons (.var rfl (.inr (.inl rfl)) rfl rfl) (.cons (.var rfl (.inr (.inl rfl)) rfl rfl) (.cons .int (.cons .int .nil))))))) (fun _ _=>rfl) (.cons (.set rfl (.inl rfl) (.idx (.gc rfl (fun _ z=>nomatch z) (.lst (.cons .str (.cons .str (.cons .str (.cons .str (.cons .str .nil))))))) (.gc rfl (fun _ z=>nomatch z) (.call rfl rfl rfl (.cons (.var rfl (.inr (.inl rfl)) rfl rfl) (.cons (.bin (.var rfl (.inr (.inl rfl)) rfl rfl) (.var rfl (.inl rfl) rfl rfl)) (.cons .int (.cons .int .nil)))))) (fun _ _=>rfl)) (fun _=>rfl))
    (.cons (.expr (.append (.var rfl (.inl rfl) rfl rfl) (.tup (.cons (.gc rfl (fun _ z=>nomatch z) (.call rfl rfl rfl (.cons (.var rfl (.inr (.inl rfl)) rfl rfl) (.cons (.bin (.var rfl (.inr (.inl rfl)) rfl rfl) (.var rfl (.inl rfl) rfl rfl)) (.cons .int .nil))))) (.cons (.var rfl (.inl rfl) rfl rfl) (.cons (.gc rfl (fun _ z=>nomatch z) (.call rfl rfl rfl (.cons (.var rfl (.inr (.inl rfl)) rfl rfl) (.cons (.bin (.var rfl (.inr (.inl rfl)) rfl rfl) (.var rfl (.inl rfl) rfl rfl)) (.cons .int .nil))))) .nil)))) rfl) (fun _=>rfl))
    .nil)))
    (.cons (.ite (.cmp (.gc rfl (fun _ z=>nomatch z) (.call rfl rfl rfl (.cons (.var rfl (.inr (.inl rfl)) rfl rfl) (.cons (.var rfl (.inr (.inl rfl)) rfl rfl) (.cons .int (.cons .int .nil)))))) .int rfl) (.cons (.ret (.tup (.cons .str (.cons (.bcall rfl (.cons (.var rfl (.inl rfl) rfl rfl) .nil)) .nil))))
    .nil) .nil)
    (.cons (.set rfl (.inl rfl) (.tup (.cons .str .nil)) (fun _=>rfl))
    (.cons (.ite (.cmp (.gc rfl (fun _ z=>nomatch z) (.call rfl rfl rfl (.cons (.var rfl (.inr (.inl rfl)) rfl rfl) (.cons (.var rfl (.inr (.inl rfl)) rfl rfl) (.cons .int (.cons .int .nil)))))) .int rfl) (.cons (.set rfl (.inl rfl) (.tup (.cons .str (.cons (.gc rfl (fun _ z=>nomatch z) (.call rfl rfl rfl (.cons (.var rfl (.inr (.inl rfl)) rfl rfl) (.cons (.var rfl (.inr (.inl rfl)) rfl rfl) (.cons .int .nil))))) (.cons (.gc rfl (fun _ z=>nomatch z) (.call rfl rfl rfl (.cons (.var rfl (.inr (.inl rfl)) rfl rfl) (.cons (.var rfl (.inr (.inl rfl)) rfl rfl) (.cons .int .nil))))) .nil)))) (fun _=>rfl))
    .nil) .nil)
    (.cons (.setC rfl (.inl rfl) (.gc rfl (fun _ z=>nomatch z) (.comp (N:=["_law_at","_law_script","_law_k"]) rfl (by decide +kernel) (by decide +kernel) (by decide +kernel) rfl (src_of (by decide +kernel)) (by decide +kernel) (fun _ _=>rfl) (.rng1 rfl (.gc rfl (fun _ z=>nomatch z) (.call rfl rfl rfl (.cons (.var rfl (.inr (.inl rfl)) rfl rfl) (.cons (.var rfl (.inr (.inl rfl)) rfl rfl) (.cons .int (.cons .int .nil))))))) (.var rfl (.inl rfl)) (by decide +kernel) (.gc rfl (fun _ z=>nomatch z) (.call rfl rfl rfl (.cons (.var rfl (.inr (.inl rfl)) rfl rfl) (.cons (.bin (.var rfl (.inr (.inl rfl)) rfl rfl) (.var rfl (.inl rfl) rfl rfl)) (.cons .int .nil))))))) ⟨_,_,_,_,rfl⟩ (fun env _=>swaps_or _ _ _ _ _ _ _ env))
    (.cons (.ret (.tup (.cons .str (.cons (.gc rfl (fun _ z=>nomatch z) (.call rfl rfl rfl (.cons (.var rfl (.inr (.inl rfl)) rfl rfl) (.cons (.var rfl (.inr (.inl rfl)) rfl rfl) (.cons .int .nil))))) (.cons (.var rfl (.inl rfl) rfl rfl) (.cons (.bcall rfl (.cons (.var rfl (.inl rfl) rfl rfl) .nil)) (.cons (.bcall rfl (.cons (.var rfl (.inl rfl) rfl rfl) .nil)) .nil)))))))
    .nil)))))))
abbrev s_law : Stmt:=top 25
theorem sc_law : FnScope ["_law_script","_law_told","_law_text"] ["_law_script"] (defScope s_law):=⟨rfl,rfl,rfl,by decide +kernel,rfl,by decide +kernel,by decide +kernel⟩
theorem ck_law : CkSs ⟨["_law_script","_law_told","_law_text"],defScope s_law,names,glo⟩ b_law (defBody s_law) :=
    (.cons (.set rfl (.inl rfl) (.gc rfl (fun _ z=>nomatch z) (.call rfl rfl rfl (.cons (.var rfl (.inl rfl) rfl rfl) (.cons .int .nil)))) (fun _=>rfl))
    (.cons (.set rfl (.inl rfl) (.gc rfl (fun _ z=>nomatch z) (.call rfl rfl rfl (.cons (.var rfl (.inl rfl) rfl rfl) .nil))) (fun _=>rfl))
    (.cons (.ite (.not (.gc rfl (fun _ z=>nomatch z) (.call rfl rfl rfl (.cons (.var rfl (.inl rfl) rfl rfl) (.cons (.gc rfl (fun _ z=>nomatch z) (.call rfl rfl rfl (.cons (.var rfl (.inl rfl) rfl rfl) .nil))) .nil))))) (.cons (.ret .bl)
    .nil) .nil)
    (.cons (.ret (.call rfl rfl rfl (.cons (.gc rfl (fun _ z=>nomatch z) (.call rfl rfl rfl (.cons (.var rfl (.inl rfl) rfl rfl) .nil))) (.cons (.var rfl (.inl rfl) rfl rfl) .nil))))
    .nil))))
theorem all_mk {l : PySem.W.OpenLaw} {w : World} {K : PySem.W.Frag} {h : Heap} {mg : Str→Option Value} {fa f0 f1 f2 f3 f4 f5 f6 f7 f8 f9 f10 f11 f12 f13 f14 f15 f16 : Addr} (X : K.In h) (G : h.Ns mainGlobals mg) (hfa : mg "law" = some (.ref fa))
    {od0 an0 od1 an1 od2 an2 od3 an3 od4 an4 od5 an5 od6 an6 od7 an7 od8 an8 od9 an9 od10 an10 od11 an11 od12 an12 od13 an13 od14 an14 od15 an15 od16 an16 : Option Addr} {sl0 sl1 sl2 sl3 sl4 sl5 sl6 sl7 sl8 sl9 sl10 sl11 sl12 sl13 sl14 sl15 sl16 : Array (Option Value)} {oc0 kV0 dc0 pm0 cd0 ct0 oc1 kV1 dc1 pm1 cd1 ct1 oc2 kV2 dc2 pm2 cd2 ct2 oc3 kV3 dc3 pm3 cd3 ct3 oc4 kV4 dc4 pm4 cd4 ct4 oc5 kV5 dc5 pm5 cd5 ct5 oc6 kV6 dc6 pm6 cd6 ct6 oc7 kV7 dc7 pm7 cd7 ct7 oc8 kV8 dc8 pm8 cd8 ct8 oc9 kV9 dc9 pm9 cd9 ct9 oc10 kV10 dc10 pm10 cd10 ct10 oc11 kV11 dc11 pm11 cd11 ct11 oc12 kV12 dc12 pm12 cd12 ct12 oc13 kV13 dc13 pm13 cd13 ct13 oc14 kV14 dc14 pm14 cd14 ct14 oc15 kV15 dc15 pm15 cd15 ct15 oc16 kV16 dc16 pm16 cd16 ct16 : Value} {gt0 gt1 gt2 gt3 gt4 gt5 gt6 : Tok}
    {ga0 : Addr} {gd0 : Option Addr} {gn0 : Nat} {gs0 : Array (Option Value)}
    (a0 : PySem.W.nsIn K mainGlobals "all_figures" = some (some (.ref f0))) (l0 : K.lookup f0 = some ⟨oc0,od0,.func (PySem.W.fnOf "all_figures" "all_figures" (defArgs s_all_figures) (defBody s_all_figures) (defScope s_all_figures) .none kV0 dc0 pm0 an0 cd0 ct0),sl0⟩) (c0 : PySem.W.codeIn K cd0 "all_figures" = true) (k0 : PySem.W.keepIn K (.ref f0) = true)
    (a1 : PySem.W.nsIn K mainGlobals "number" = some (some (.ref f1))) (l1 : K.lookup f1 = some ⟨oc1,od1,.func (PySem.W.fnOf "number" "number" (defArgs s_number) (defBody s_number) (defScope s_number) .none kV1 dc1 pm1 an1 cd1 ct1),sl1⟩) (c1 : PySem.W.codeIn K cd1 "number" = true) (k1 : PySem.W.keepIn K (.ref f1) = true)
    (a2 : PySem.W.nsIn K mainGlobals "read_numbers" = some (some (.ref f2))) (l2 : K.lookup f2 = some ⟨oc2,od2,.func (PySem.W.fnOf "read_numbers" "read_numbers" (defArgs s_read_numbers) (defBody s_read_numbers) (defScope s_read_numbers) .none kV2 dc2 pm2 an2 cd2 ct2),sl2⟩) (c2 : PySem.W.codeIn K cd2 "read_numbers" = true) (k2 : PySem.W.keepIn K (.ref f2) = true)
    (a3 : PySem.W.nsIn K mainGlobals "shown_others" = some (some (.ref f3))) (l3 : K.lookup f3 = some ⟨oc3,od3,.func (PySem.W.fnOf "shown_others" "shown_others" (defArgs s_shown_others) (defBody s_shown_others) (defScope s_shown_others) .none kV3 dc3 pm3 an3 cd3 ct3),sl3⟩) (c3 : PySem.W.codeIn K cd3 "shown_others" = true) (k3 : PySem.W.keepIn K (.ref f3) = true)
    (a4 : PySem.W.nsIn K mainGlobals "shown_paper" = some (some (.ref f4))) (l4 : K.lookup f4 = some ⟨oc4,od4,.func (PySem.W.fnOf "shown_paper" "shown_paper" (defArgs s_shown_paper) (defBody s_shown_paper) (defScope s_shown_paper) .none kV4 dc4 pm4 an4 cd4 ct4),sl4⟩) (c4 : PySem.W.codeIn K cd4 "shown_paper" = true) (k4 : PySem.W.keepIn K (.ref f4) = true)
    (a5 : PySem.W.nsIn K mainGlobals "parted_at" = some (some (.ref f5))) (l5 : K.lookup f5 = some ⟨oc5,od5,.func (PySem.W.fnOf "parted_at" "parted_at" (defArgs s_parted_at) (defBody s_parted_at) (defScope s_parted_at) .none kV5 dc5 pm5 an5 cd5 ct5),sl5⟩) (c5 : PySem.W.codeIn K cd5 "parted_at" = true) (k5 : PySem.W.keepIn K (.ref f5) = true)
    (a6 : PySem.W.nsIn K mainGlobals "read_other" = some (some (.ref f6))) (l6 : K.lookup f6 = some ⟨oc6,od6,.func (PySem.W.fnOf "read_other" "read_other" (defArgs s_read_other) (defBody s_read_other) (defScope s_read_other) .none kV6 dc6 pm6 an6 cd6 ct6),sl6⟩) (c6 : PySem.W.codeIn K cd6 "read_other" = true) (k6 : PySem.W.keepIn K (.ref f6) = true)
    (a7 : PySem.W.nsIn K mainGlobals "read_others" = some (some (.ref f7))) (l7 : K.lookup f7 = some ⟨oc7,od7,.func (PySem.W.fnOf "read_others" "read_others" (defArgs s_read_others) (defBody s_read_others) (defScope s_read_others) .none kV7 dc7 pm7 an7 cd7 ct7),sl7⟩) (c7 : PySem.W.codeIn K cd7 "read_others" = true) (k7 : PySem.W.keepIn K (.ref f7) = true)
    (a8 : PySem.W.nsIn K mainGlobals "read_way" = some (some (.ref f8))) (l8 : K.lookup f8 = some ⟨oc8,od8,.func (PySem.W.fnOf "read_way" "read_way" (defArgs s_read_way) (defBody s_read_way) (defScope s_read_way) .none kV8 dc8 pm8 an8 cd8 ct8),sl8⟩) (c8 : PySem.W.codeIn K cd8 "read_way" = true) (k8 : PySem.W.keepIn K (.ref f8) = true)
    (a9 : PySem.W.nsIn K mainGlobals "read_held" = some (some (.ref f9))) (l9 : K.lookup f9 = some ⟨oc9,od9,.func (PySem.W.fnOf "read_held" "read_held" (defArgs s_read_held) (defBody s_read_held) (defScope s_read_held) .none kV9 dc9 pm9 an9 cd9 ct9),sl9⟩) (c9 : PySem.W.codeIn K cd9 "read_held" = true) (k9 : PySem.W.keepIn K (.ref f9) = true)
    (a10 : PySem.W.nsIn K mainGlobals "read_paper" = some (some (.ref f10))) (l10 : K.lookup f10 = some ⟨oc10,od10,.func (PySem.W.fnOf "read_paper" "read_paper" (defArgs s_read_paper) (defBody s_read_paper) (defScope s_read_paper) .none kV10 dc10 pm10 an10 cd10 ct10),sl10⟩) (c10 : PySem.W.codeIn K cd10 "read_paper" = true) (k10 : PySem.W.keepIn K (.ref f10) = true)
    (a11 : PySem.W.nsIn K mainGlobals "_law_draw" = some (some (.ref f11))) (l11 : K.lookup f11 = some ⟨oc11,od11,.func (PySem.W.fnOf "_law_draw" "_law_draw" (defArgs s_law_draw) (defBody s_law_draw) (defScope s_law_draw) .none kV11 dc11 pm11 an11 cd11 ct11),sl11⟩) (c11 : PySem.W.codeIn K cd11 "_law_draw" = true) (k11 : PySem.W.keepIn K (.ref f11) = true)
    (a12 : PySem.W.nsIn K mainGlobals "_law_same" = some (some (.ref f12))) (l12 : K.lookup f12 = some ⟨oc12,od12,.func (PySem.W.fnOf "_law_same" "_law_same" (defArgs s_law_same) (defBody s_law_same) (defScope s_law_same) .none kV12 dc12 pm12 an12 cd12 ct12),sl12⟩) (c12 : PySem.W.codeIn K cd12 "_law_same" = true) (k12 : PySem.W.keepIn K (.ref f12) = true)
    (a13 : PySem.W.nsIn K mainGlobals "_law_great" = some (some (.ref f13))) (l13 : K.lookup f13 = some ⟨oc13,od13,.func (PySem.W.fnOf "_law_great" "_law_great" (defArgs s_law_great) (defBody s_law_great) (defScope s_law_great) .none kV13 dc13 pm13 an13 cd13 ct13),sl13⟩) (c13 : PySem.W.codeIn K cd13 "_law_great" = true) (k13 : PySem.W.keepIn K (.ref f13) = true)
    (a14 : PySem.W.nsIn K mainGlobals "_law_flat_paper" = some (some (.ref f14))) (l14 : K.lookup f14 = some ⟨oc14,od14,.func (PySem.W.fnOf "_law_flat_paper" "_law_flat_paper" (defArgs s_law_flat_paper) (defBody s_law_flat_paper) (defScope s_law_flat_paper) .none kV14 dc14 pm14 an14 cd14 ct14),sl14⟩) (c14 : PySem.W.codeIn K cd14 "_law_flat_paper" = true) (k14 : PySem.W.keepIn K (.ref f14) = true)
    (a15 : PySem.W.nsIn K mainGlobals "_law_loose_paper" = some (some (.ref f15))) (l15 : K.lookup f15 = some ⟨oc15,od15,.func (PySem.W.fnOf "_law_loose_paper" "_law_loose_paper" (defArgs s_law_loose_paper) (defBody s_law_loose_paper) (defScope s_law_loose_paper) .none kV15 dc15 pm15 an15 cd15 ct15),sl15⟩) (c15 : PySem.W.codeIn K cd15 "_law_loose_paper" = true) (k15 : PySem.W.keepIn K (.ref f15) = true)
    (a16 : PySem.W.nsIn K mainGlobals "law" = some (some (.ref f16))) (l16 : K.lookup f16 = some ⟨oc16,od16,.func (PySem.W.fnOf "law" "law" (defArgs s_law) (defBody s_law) (defScope s_law) .none kV16 dc16 pm16 an16 cd16 ct16),sl16⟩) (c16 : PySem.W.codeIn K cd16 "law" = true) (k16 : PySem.W.keepIn K (.ref f16) = true)
    (gl0 : PySem.W.nsIn K mainGlobals "FIGURES" = some (some (.str (PySem.Str.ofString "0123456789") gt0)))
    (gl1 : PySem.W.nsIn K mainGlobals "THINGS" = some (some (.int 3 gt1)))
    (gl2 : PySem.W.nsIn K mainGlobals "WORDS" = some (some (.ref ga0)))
    (go0 : K.lookup ga0 = some ⟨.type "tuple",gd0,.seq #[(.str (PySem.Str.ofString "given") gt2),(.str (PySem.Str.ofString "fallen") gt3),(.str (PySem.Str.ofString "unvested") gt4),(.str (PySem.Str.ofString "ground") gt5),(.str (PySem.Str.ofString "younger") gt6)] gn0,gs0⟩)
    (z0 : PySem.W.nsIn K mainGlobals "len" = some none)
    (z1 : PySem.W.nsIn K mainGlobals "min" = some none)
    (z2 : PySem.W.nsIn K mainGlobals "max" = some none)
    (z3 : PySem.W.nsIn K mainGlobals "tuple" = some none)
    (z4 : PySem.W.nsIn K mainGlobals "list" = some none)
    (z5 : PySem.W.nsIn K mainGlobals "all" = some none)
    (z6 : PySem.W.nsIn K mainGlobals "sorted" = some none)
    (z7 : PySem.W.nsIn K mainGlobals "isinstance" = some none)
    (z8 : PySem.W.nsIn K mainGlobals "range" = some none)
    (z9 : PySem.W.nsIn K mainGlobals "int" = some none)
    (z10 : PySem.W.nsIn K mainGlobals "bool" = some none)
    (z11 : PySem.W.nsIn K mainGlobals "str" = some none)
    (z12 : PySem.W.nsIn K mainGlobals "zip" = some none)
    (z13 : PySem.W.nsIn K mainGlobals "any" = some none)
    (z14 : PySem.W.nsIn K mainGlobals "enumerate" = some none)
    (z15 : PySem.W.nsIn K mainGlobals "reversed" = some none)
    (z16 : PySem.W.nsIn K mainGlobals "sum" = some none)
    (z17 : PySem.W.nsIn K mainGlobals "set" = some none)
    (z18 : PySem.W.nsIn K mainGlobals "dict" = some none)
    : ∃ fd : FuncData,(∀ (s : Shared) (v : Value),BindsTo s fd ⟨[v],[]⟩ [("_law_script",v)])∧∀ base : Heap,K.In base→base.Ns mainGlobals mg→FnOk l.prog w K mg base CX0 20 fa fd ["_law_script"] (spLaw K):=by
  have e:=hfa.symm.trans (PySem.W.mg_of X G a16)
  cases e
  have Mg : Mo K mg glo w.params:=⟨fun x ks ds hm=>by
      (cases hm)
    ,fun x d hm=>by
      simp only [glo,List.mem_cons,List.not_mem_nil,or_false,Prod.mk.injEq] at hm
      rcases hm with ⟨rfl,rfl⟩ | ⟨rfl,rfl⟩ | ⟨rfl,rfl⟩
      · exact ⟨_,(.str (PySem.Str.ofString "0123456789")),PySem.W.mg_of X G gl0,⟨_,rfl⟩,fun m H=>(mkStr _)⟩
      · exact ⟨_,(.int 3),PySem.W.mg_of X G gl1,⟨_,rfl⟩,fun m H=>(mkInt _)⟩
      · exact ⟨_,(.ref ga0),PySem.W.mg_of X G gl2,rfl,fun m H=>(mkTup (xs:=[(.str (PySem.Str.ofString "given")),(.str (PySem.Str.ofString "fallen")),(.str (PySem.Str.ofString "unvested")),(.str (PySem.Str.ofString "ground")),(.str (PySem.Str.ofString "younger"))]) (.inr ⟨_,_,_,go0,rfl,rfl,(by show 5 ≤ sizeLine; decide),(.cons ⟨_,rfl⟩ (.cons ⟨_,rfl⟩ (.cons ⟨_,rfl⟩ (.cons ⟨_,rfl⟩ (.cons ⟨_,rfl⟩ .nil)))))⟩) (mkCons (mkStr _) (mkCons (mkStr _) (mkCons (mkStr _) (mkCons (mkStr _) (mkCons (mkStr _) mkNil))))))⟩
    ,PySem.W.mg_none_of X G z0,PySem.W.mg_none_of X G z1,PySem.W.mg_none_of X G z2,PySem.W.mg_none_of X G z3,PySem.W.mg_none_of X G z4,PySem.W.mg_none_of X G z5,PySem.W.mg_none_of X G z6,PySem.W.mg_none_of X G z7,PySem.W.mg_none_of X G z8,PySem.W.mg_none_of X G z9,PySem.W.mg_none_of X G z10,PySem.W.mg_none_of X G z11,PySem.W.mg_none_of X G z12,PySem.W.mg_none_of X G z13,PySem.W.mg_none_of X G z14,PySem.W.mg_none_of X G z15,PySem.W.mg_none_of X G z16,PySem.W.mg_none_of X G z17,PySem.W.mg_none_of X G z18⟩
  have F0:=fun_mk (st:=s_all_figures) l0 c0 k0
  have b0:=F0.binds (ps:=["text"]) fun _ _ _ _ _ _ us hl=>match us,hl with | [_],_=>rfl
  have F1:=fun_mk (st:=s_number) l1 c1 k1
  have b1:=F1.binds (ps:=["text"]) fun _ _ _ _ _ _ us hl=>match us,hl with | [_],_=>rfl
  have F2:=fun_mk (st:=s_read_numbers) l2 c2 k2
  have b2:=F2.binds (ps:=["texts"]) fun _ _ _ _ _ _ us hl=>match us,hl with | [_],_=>rfl
  have F3:=fun_mk (st:=s_shown_others) l3 c3 k3
  have b3:=F3.binds (ps:=["others"]) fun _ _ _ _ _ _ us hl=>match us,hl with | [_],_=>rfl
  have F4:=fun_mk (st:=s_shown_paper) l4 c4 k4
  have b4:=F4.binds (ps:=["paper"]) fun _ _ _ _ _ _ us hl=>match us,hl with | [_],_=>rfl
  have F5:=fun_mk (st:=s_parted_at) l5 c5 k5
  have b5:=F5.binds (ps:=["texts","word"]) fun _ _ _ _ _ _ us hl=>match us,hl with | [_,_],_=>rfl
  have F6:=fun_mk (st:=s_read_other) l6 c6 k6
  have b6:=F6.binds (ps:=["texts"]) fun _ _ _ _ _ _ us hl=>match us,hl with | [_],_=>rfl
  have F7:=fun_mk (st:=s_read_others) l7 c7 k7
  have b7:=F7.binds (ps:=["texts"]) fun _ _ _ _ _ _ us hl=>match us,hl with | [_],_=>rfl
  have F8:=fun_mk (st:=s_read_way) l8 c8 k8
  have b8:=F8.binds (ps:=["texts"]) fun _ _ _ _ _ _ us hl=>match us,hl with | [_],_=>rfl
  have F9:=fun_mk (st:=s_read_held) l9 c9 k9
  have b9:=F9.binds (ps:=["texts","others"]) fun _ _ _ _ _ _ us hl=>match us,hl with | [_,_],_=>rfl
  have F10:=fun_mk (st:=s_read_paper) l10 c10 k10
  have b10:=F10.binds (ps:=["text"]) fun _ _ _ _ _ _ us hl=>match us,hl with | [_],_=>rfl
  have F11:=fun_mk (st:=s_law_draw) l11 c11 k11
  have b11:=F11.binds (ps:=["_law_script","_law_k","_law_j","_law_many"]) fun _ _ _ _ _ _ us hl=>match us,hl with | [_,_,_,_],_=>rfl
  have F12:=fun_mk (st:=s_law_same) l12 c12 k12
  have b12:=F12.binds (ps:=["_law_found","_law_due"]) fun _ _ _ _ _ _ us hl=>match us,hl with | [_,_],_=>rfl
  have F13:=fun_mk (st:=s_law_great) l13 c13 k13
  have b13:=F13.binds (ps:=["_law_script","_law_k","_law_j"]) fun _ _ _ _ _ _ us hl=>match us,hl with | [_,_,_],_=>rfl
  have F14:=fun_mk (st:=s_law_flat_paper) l14 c14 k14
  have b14:=F14.binds (ps:=["_law_sheet"]) fun _ _ _ _ _ _ us hl=>match us,hl with | [_],_=>rfl
  have F15:=fun_mk (st:=s_law_loose_paper) l15 c15 k15
  have b15:=F15.binds (ps:=["_law_script","_law_k"]) fun _ _ _ _ _ _ us hl=>match us,hl with | [_,_],_=>rfl
  have F16:=fun_mk (st:=s_law) l16 c16 k16
  have b16:=F16.binds (ps:=["_law_script"]) fun _ _ _ _ _ _ us hl=>match us,hl with | [_],_=>rfl
  have T : ∀ f x,names[f]? = some x→FText K mg fns names glo f x:=by
    intro f x hx
    match f,hx with
    | 0,hx=>cases hx; exact ⟨_,_,s_all_figures,_,_,f_all_figures,rfl,F0,PySem.W.mg_of X G a0,b0,sc_all_figures,ck_all_figures,rfl,rfl⟩
    | 1,hx=>cases hx; exact ⟨_,_,s_number,_,_,f_number,rfl,F1,PySem.W.mg_of X G a1,b1,sc_number,ck_number,rfl,rfl⟩
    | 2,hx=>cases hx; exact ⟨_,_,s_read_numbers,_,_,f_read_numbers,rfl,F2,PySem.W.mg_of X G a2,b2,sc_read_numbers,ck_read_numbers,rfl,rfl⟩
    | 3,hx=>cases hx; exact ⟨_,_,s_shown_others,_,_,f_shown_others,rfl,F3,PySem.W.mg_of X G a3,b3,sc_shown_others,ck_shown_others,rfl,rfl⟩
    | 4,hx=>cases hx; exact ⟨_,_,s_shown_paper,_,_,f_shown_paper,rfl,F4,PySem.W.mg_of X G a4,b4,sc_shown_paper,ck_shown_paper,rfl,rfl⟩
    | 5,hx=>cases hx; exact ⟨_,_,s_parted_at,_,_,f_parted_at,rfl,F5,PySem.W.mg_of X G a5,b5,sc_parted_at,ck_parted_at,rfl,rfl⟩
    | 6,hx=>cases hx; exact ⟨_,_,s_read_other,_,_,f_read_other,rfl,F6,PySem.W.mg_of X G a6,b6,sc_read_other,ck_read_other,rfl,rfl⟩
    | 7,hx=>cases hx; exact ⟨_,_,s_read_others,_,_,f_read_others,rfl,F7,PySem.W.mg_of X G a7,b7,sc_read_others,ck_read_others,rfl,rfl⟩
    | 8,hx=>cases hx; exact ⟨_,_,s_read_way,_,_,f_read_way,rfl,F8,PySem.W.mg_of X G a8,b8,sc_read_way,ck_read_way,rfl,rfl⟩
    | 9,hx=>cases hx; exact ⟨_,_,s_read_held,_,_,f_read_held,rfl,F9,PySem.W.mg_of X G a9,b9,sc_read_held,ck_read_held,rfl,rfl⟩
    | 10,hx=>cases hx; exact ⟨_,_,s_read_paper,_,_,f_read_paper,rfl,F10,PySem.W.mg_of X G a10,b10,sc_read_paper,ck_read_paper,rfl,rfl⟩
    | 11,hx=>cases hx; exact ⟨_,_,s_law_draw,_,_,f_law_draw,rfl,F11,PySem.W.mg_of X G a11,b11,sc_law_draw,ck_law_draw,rfl,rfl⟩
    | 12,hx=>cases hx; exact ⟨_,_,s_law_same,_,_,f_law_same,rfl,F12,PySem.W.mg_of X G a12,b12,sc_law_same,ck_law_same,rfl,rfl⟩
    | 13,hx=>cases hx; exact ⟨_,_,s_law_great,_,_,f_law_great,rfl,F13,PySem.W.mg_of X G a13,b13,sc_law_great,ck_law_great,rfl,rfl⟩
    | 14,hx=>cases hx; exact ⟨_,_,s_law_flat_paper,_,_,f_law_flat_paper,rfl,F14,PySem.W.mg_of X G a14,b14,sc_law_flat_paper,ck_law_flat_paper,rfl,rfl⟩
    | 15,hx=>cases hx; exact ⟨_,_,s_law_loose_paper,_,_,f_law_loose_paper,rfl,F15,PySem.W.mg_of X G a15,b15,sc_law_loose_paper,ck_law_loose_paper,rfl,rfl⟩
    | 16,hx=>cases hx; exact ⟨_,_,s_law,_,_,f_law,rfl,F16,PySem.W.mg_of X G a16,b16,sc_law,ck_law,rfl,rfl⟩
    | n + 17,hx=>simp [names] at hx
  refine ⟨_,fun s v=>.of_eq rfl,fun base _ _=>(fun_ok (n:=19) (f:=16) (F:=f_law) (tab_ok T Mg _) Mg rfl F16 sc_law ck_law rfl rfl).imp (law_sp K33.law_ok)⟩
end K33
open PySem PySem.W PyProof.Rows
set_option maxRecDepth 100000 in
set_option maxHeartbeats 0 in
theorem PySem.Challenge.cw_dipright_k33_papers_written_and_read_holds : PySem.Challenge.rw_dipright_k33_papers_written_and_read.Holds := by
  w_on; o_law; k_head; (case hw=>w_witness2)
  k_fill
  refine MS.walk_law (l:=PySem.Challenge.rw_dipright_k33_papers_written_and_read) (k:=20) (x:="_law_script") rfl rfl ⟨rfl,by decide,by decide⟩ (fun w h Y=>PySem.W.kIn_of Y) ?F
  case F =>
    intro w mg fa h KX G hmg
    refine' K33.all_mk KX G hmg ?a0 ?l0 ?c0 ?k0 ?a1 ?l1 ?c1 ?k1 ?a2 ?l2 ?c2 ?k2 ?a3 ?l3 ?c3 ?k3 ?a4 ?l4 ?c4 ?k4 ?a5 ?l5 ?c5 ?k5 ?a6 ?l6 ?c6 ?k6 ?a7 ?l7 ?c7 ?k7 ?a8 ?l8 ?c8 ?k8 ?a9 ?l9 ?c9 ?k9 ?a10 ?l10 ?c10 ?k10 ?a11 ?l11 ?c11 ?k11 ?a12 ?l12 ?c12 ?k12 ?a13 ?l13 ?c13 ?k13 ?a14 ?l14 ?c14 ?k14 ?a15 ?l15 ?c15 ?k15 ?a16 ?l16 ?c16 ?k16 ?gl0 ?gl1 ?gl2 ?go0 ?z0 ?z1 ?z2 ?z3 ?z4 ?z5 ?z6 ?z7 ?z8 ?z9 ?z10 ?z11 ?z12 ?z13 ?z14 ?z15 ?z16 ?z17 ?z18
    (case a0=>k_is)
    (case l0=>k_is)
    (case c0=>k_is)
    (case k0=>k_is)
    (case a1=>k_is)
    (case l1=>k_is)
    (case c1=>k_is)
    (case k1=>k_is)
    (case a2=>k_is)
    (case l2=>k_is)
    (case c2=>k_is)
    (case k2=>k_is)
    (case a3=>k_is)
    (case l3=>k_is)
    (case c3=>k_is)
    (case k3=>k_is)
    (case a4=>k_is)
    (case l4=>k_is)
    (case c4=>k_is)
    (case k4=>k_is)
    (case a5=>k_is)
    (case l5=>k_is)
    (case c5=>k_is)
    (case k5=>k_is)
    (case a6=>k_is)
    (case l6=>k_is)
    (case c6=>k_is)
    (case k6=>k_is)
    (case a7=>k_is)
    (case l7=>k_is)
    (case c7=>k_is)
    (case k7=>k_is)
    (case a8=>k_is)
    (case l8=>k_is)
    (case c8=>k_is)
    (case k8=>k_is)
    (case a9=>k_is)
    (case l9=>k_is)
    (case c9=>k_is)
    (case k9=>k_is)
    (case a10=>k_is)
    (case l10=>k_is)
    (case c10=>k_is)
    (case k10=>k_is)
    (case a11=>k_is)
    (case l11=>k_is)
    (case c11=>k_is)
    (case k11=>k_is)
    (case a12=>k_is)
    (case l12=>k_is)
    (case c12=>k_is)
    (case k12=>k_is)
    (case a13=>k_is)
    (case l13=>k_is)
    (case c13=>k_is)
    (case k13=>k_is)
    (case a14=>k_is)
    (case l14=>k_is)
    (case c14=>k_is)
    (case k14=>k_is)
    (case a15=>k_is)
    (case l15=>k_is)
    (case c15=>k_is)
    (case k15=>k_is)
    (case a16=>k_is)
    (case l16=>k_is)
    (case c16=>k_is)
    (case k16=>k_is)
    (case gl0=>k_is)
    (case gl1=>k_is)
    (case gl2=>k_is)
    (case go0=>k_is)
    (case z0=>k_is)
    (case z1=>k_is)
    (case z2=>k_is)
    (case z3=>k_is)
    (case z4=>k_is)
    (case z5=>k_is)
    (case z6=>k_is)
    (case z7=>k_is)
    (case z8=>k_is)
    (case z9=>k_is)
    (case z10=>k_is)
    (case z11=>k_is)
    (case z12=>k_is)
    (case z13=>k_is)
    (case z14=>k_is)
    (case z15=>k_is)
    (case z16=>k_is)
    (case z17=>k_is)
    (case z18=>k_is)
