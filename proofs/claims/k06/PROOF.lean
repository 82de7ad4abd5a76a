import PyProof.Rows.All
import Wide.All
import OpenK.AllK
import Wide.FinOn
import Lean
import PyProof.EqAt
import PyProof.EqKinds
import PyProof.TupleCall
import PyProof.NeKinds
import PyProof.ZipIter
import PyProof.StrLoop
import PyProof.StrWalks
import PyProof.StrCalls
import PyProof.StrCalls2
import PyProof.StrLawsIn
import PyProof.SliceStr2
import PyProof.StrBlock
import PyProof.Rows.StrFirst
import KE.KIntText
import PySem.Challenge.RW_dipright_k06_numbers_read
set_option Elab.async false
set_option linter.all false
set_option maxRecDepth 100000
set_option maxHeartbeats 4000000
section
set_option Elab.async false
set_option linter.all false
set_option maxRecDepth 100000
/-! THE HAND LAYER, for ints, bools, texts, own classes, LISTS and tuples (index, slices, in, append, pop ..), calls, loops. Paste it whole ahead of your own text; what your proof does not reach may be deleted. -/
namespace L2
open PySem PySem.Spec PyProof.Rows

/-- a key: an int or a str -/
abbrev Key := Sum Int Str
def keyIs : Key → Value → Bool
  | .inl k, v => Value.isInt k v
  | .inr x, v => Value.isStrOf x v
def keyH (w : World) : Key → Int
  | .inl k => hashInt k
  | .inr x => hashStr w x
theorem keyIs_shape : ∀ {k : Key} {v : Value}, keyIs k v = true → (∃ i t, k = Sum.inl i ∧ v = Value.int i t) ∨ (∃ x t, k = Sum.inr x ∧ v = Value.str x t)
  | .inl i, v, h => by
    obtain ⟨t, e⟩ := Value.isInt_shape (k := i) (v := v) h
    exact .inl ⟨i, t, rfl, e⟩
  | .inr x, v, h => by
    obtain ⟨t, e⟩ := Value.isStrOf_shape (x := x) (v := v) h
    exact .inr ⟨x, t, rfl, e⟩
theorem keyIs_int (i : Int) (t : Tok) : keyIs (.inl i) (.int i t) = true := by simp [keyIs, Value.isInt]
theorem keyIs_str (x : Str) (t : Tok) : keyIs (.inr x) (.str x t) = true := by simp [keyIs, Value.isStrOf]
theorem key_ll (a b : Int) : decide ((Sum.inl a : Key) = Sum.inl b) = (a == b) := by
  by_cases e : a = b
  · subst e; simp
  · have h : ¬ (Sum.inl a : Key) = Sum.inl b := fun q => e (Sum.inl.inj q)
    rw [decide_eq_false h]
    exact (beq_eq_false_iff_ne.mpr e).symm
theorem key_rr (a b : Str) : decide ((Sum.inr a : Key) = Sum.inr b) = decide (a = b) := by
  by_cases e : a = b
  · subst e; simp
  · have h : ¬ (Sum.inr a : Key) = Sum.inr b := fun q => e (Sum.inr.inj q)
    rw [decide_eq_false h, decide_eq_false e]
theorem key_lr (a : Int) (b : Str) : decide ((Sum.inl a : Key) = Sum.inr b) = false := decide_eq_false (fun q => nomatch q)
theorem key_rl (a : Str) (b : Int) : decide ((Sum.inr a : Key) = Sum.inl b) = false := decide_eq_false (fun q => nomatch q)

def mixKind (prog : Program) (w : World) : PySem.KeyKind prog w Key where
  is := keyIs
  hash := keyH w
  inj := fun v a b ha hb => by
    rcases keyIs_shape ha with ⟨i, t, rfl, rfl⟩ | ⟨x, t, rfl, rfl⟩
    · rcases keyIs_shape hb with ⟨j, u, rfl, e⟩ | ⟨y, u, rfl, e⟩
      · injection e with e1 _; rw [e1]
      · exact nomatch e
    · rcases keyIs_shape hb with ⟨j, u, rfl, e⟩ | ⟨y, u, rfl, e⟩
      · exact nomatch e
      · injection e with e1 _; rw [e1]
  byValue := fun k v h => by
    rcases keyIs_shape h with ⟨i, t, rfl, rfl⟩ | ⟨x, t, rfl, rfl⟩ <;> rfl
  pyHash := fun hv h => by
    rcases keyIs_shape hv with ⟨i, t, rfl, rfl⟩ | ⟨x, t, rfl, rfl⟩
    · exact wpAny_pyHash_int h
    · exact wpAny_pyHash_str h
  eqBool := fun hu hv h => by
    rcases keyIs_shape hu with ⟨i, t, rfl, rfl⟩ | ⟨x, t, rfl, rfl⟩
    · rcases keyIs_shape hv with ⟨j, u, rfl, rfl⟩ | ⟨y, u, rfl, rfl⟩
      · rw [key_ll] at h; exact wpAny_eqBool_int h
      · rw [key_lr] at h; exact SeqAt.EqAt.int_str i t y u _ _ _ _ h
    · rcases keyIs_shape hv with ⟨j, u, rfl, rfl⟩ | ⟨y, u, rfl, rfl⟩
      · rw [key_rl] at h; exact SeqAt.EqAt.str_int x t j u _ _ _ _ h
      · rw [key_rr] at h; exact wpAny_eqBool_str h
  «strs» := fun k x t v h => by
    rcases keyIs_shape h with ⟨i, u, rfl, e⟩ | ⟨y, u, rfl, e⟩
    · exact nomatch e
    · injection e with e1 _
      subst e1
      cases v <;> rfl

theorem mixKind_is (prog : Program) (w : World) (k : Key) (v : Value) : (mixKind prog w).is k v = keyIs k v := rfl
theorem mixKind_int (prog : Program) (w : World) (i : Int) (t : Tok) : (mixKind prog w).is (.inl i) (.int i t) = true := keyIs_int i t
theorem mixKind_str (prog : Program) (w : World) (x : Str) (t : Tok) : (mixKind prog w).is (.inr x) (.str x t) = true := keyIs_str x t
end L2

namespace L2
open PySem PySem.Spec PyProof.Rows

/-- a value, without the heap -/
inductive V where
  | non | bl (b : Bool) | int (i : Int) | str (x : Str) | byt (b : Array UInt8) | flt (b : UInt64) | ref (a : Addr) | ty (n : String)
  deriving DecidableEq

def RelV : V → Value → Prop
  | .non, u => u = Value.none
  | .bl b, u => u = Value.bool b
  | .int i, u => ∃ t, u = Value.int i t
  | .str x, u => ∃ t, u = Value.str x t
  | .byt b, u => ∃ t, u = Value.bytes b t
  | .flt b, u => ∃ t, u = Value.float b t
  | .ref a, u => u = Value.ref a
  | .ty n, u => u = Value.type n

abbrev Vals : List V → List Value → Prop := Paired RelV
theorem Vals.length {xs : List V} {us : List Value} (r : Vals xs us) : xs.length = us.length := Paired.length r
theorem Vals.get : ∀ {xs : List V} {us : List Value} {i : Nat} {x : V}, Vals xs us → xs[i]? = some x → ∃ u, us[i]? = some u ∧ RelV x u
  | _, _, _, _, .nil, e => by simp at e
  | _, _, 0, _, .cons r _, e => by simp at e; subst e; exact ⟨_, rfl, r⟩
  | _, _, i + 1, x, .cons _ t, e => by
    obtain ⟨u, h1, h2⟩ := Vals.get (i := i) (x := x) t (by simpa using e)
    exact ⟨u, by simpa using h1, h2⟩
theorem Vals.set {x : V} {u : Value} (r : RelV x u) : ∀ {xs : List V} {us : List Value} (i : Nat), Vals xs us → Vals (xs.set i x) (us.set i u)
  | _, _, _, .nil => .nil
  | _, _, 0, .cons _ t => .cons r t
  | _, _, i + 1, .cons q t => .cons q (Vals.set r i t)
theorem Vals.append : ∀ {xs ys : List V} {us ws : List Value}, Vals xs us → Vals ys ws → Vals (xs ++ ys) (us ++ ws)
  | _, _, _, _, .nil, s => s
  | _, _, _, _, .cons r t, s => .cons r (Vals.append t s)
theorem Vals.take : ∀ {xs : List V} {us : List Value} (n : Nat), Vals xs us → Vals (xs.take n) (us.take n)
  | _, _, 0, _ => .nil
  | _, _, _ + 1, .nil => .nil
  | _, _, n + 1, .cons r t => .cons r (Vals.take n t)
theorem Vals.drop : ∀ {xs : List V} {us : List Value} (n : Nat), Vals xs us → Vals (xs.drop n) (us.drop n)
  | _, _, 0, r => r
  | _, _, _ + 1, .nil => .nil
  | _, _, n + 1, .cons _ t => Vals.drop n t
theorem Vals.none_of : ∀ {xs : List V} {us : List Value} {i : Nat}, Vals xs us → xs[i]? = none → us[i]? = none := fun {xs us i} r e => by
  have h1 := r.length
  have h2 : xs.length ≤ i := List.getElem?_eq_none_iff.mp e
  exact List.getElem?_eq_none_iff.mpr (by omega)

def RelO : Option V → Option Value → Prop
  | some v, some u => RelV v u
  | none, none => True
  | _, _ => False
def KV {κ : Type} : List (κ × V) → List (κ × Value) → Prop := Paired fun (p : κ × V) (q : κ × Value) => p.1 = q.1 ∧ RelV p.2 q.2

/-- a key of a dict (00_mix): an int or a text -/
def kV : Key → V
  | .inl i => .int i
  | .inr x => .str x

/-- what stands at a tracked address -/
inductive HO where
  /-- a list -/
  | lst (xs : List V)
  /-- a tuple (never changes) -/
  | tup (xs : List V)
  /-- a dict whose keys are ints and texts; one whose keys are tuples of ints and texts (the empty one is both) -/
  | dK (kvs : List (Key × V)) | dT (kvs : List (List Key × V))
  /-- a set of ints: its members, its size -/
  | set (S : Int → Bool) (n : Nat)
  /-- an instance of the class at C, its dict at dx, its attributes -/
  | ins (C dx : Addr) (fs : List (Str × V))
  /-- the dict of the instance at x -/
  | own (x : Addr)
  /-- the dict of an exception -/
  | xd (fs : List (Str × V))
  /-- a bound method, f of x -/
  | met (f x : Addr)
  /-- a range object lo, lo + 1, .. below hi -/
  | rng (lo hi : Int)
  /-- a thing that is known to the object (the script; a dict while a loop walks it): read, never written while it is so -/
  | frz (o : Obj) (u : HO)
  /-- a code object's table -/
  | tbl (ps : Array Value)
  /-- any other thing, by what is true of its one object (a def of one's own: SetO a S n := HO.ext fun h => ..) -/
  | ext (φ : Heap → Prop)

abbrev Hp := Addr → Option HO
def upd (H : Hp) (a : Addr) (o : HO) : Hp := fun b => if b = a then some o else H b
theorem upd_same {H : Hp} {a : Addr} {o : HO} : upd H a o a = some o := by unfold upd; rw [if_pos rfl]
theorem upd_ne {H : Hp} {a b : Addr} {o : HO} (h : b ≠ a) : upd H a o b = H b := by unfold upd; rw [if_neg h]
theorem upd_upd {H : Hp} {a : Addr} {o u : HO} : upd (upd H a o) a u = upd H a u := by
  funext b; unfold upd; split <;> rfl
/-- two objects of different content stand apart -/
theorem ne_of {H : Hp} {a b : Addr} {o u : HO} (h : H a = some o) (h' : H b = some u) (d : o ≠ u) : a ≠ b := by
  intro e; subst e; rw [h] at h'; exact d (Option.some.inj h')
theorem ne_of_none {H : Hp} {a b : Addr} {o : HO} (h : H a = some o) (h' : H b = none) : a ≠ b := by
  intro e; subst e; rw [h] at h'; cases h'

section
variable (P : Program) (w : World)
def ObjOk (H : Hp) (h : Heap) (a : Addr) : HO → Prop
  | .lst xs => xs.length ≤ sizeLine ∧ ∃ (its : List Value) (n : Nat), Vals xs its ∧ h.get? a = some { cls := .type "list", data := .seq its.toArray n }
  | .tup xs => xs.length ≤ sizeLine ∧ ∃ its : List Value, Vals xs its ∧ IsTup h a its.toArray
  | .dK kvs => kvs.length ≤ sizeLine ∧ (a == sysModules) = false ∧ ∃ vs, KV kvs vs ∧ h.DictOf (mixKind P w) a vs
  | .dT kvs => kvs.length ≤ sizeLine ∧ (a == sysModules) = false ∧ ∃ xs : List (List Key × Addr × Value),
      Paired (fun (p : List Key × V) (q : List Key × Addr × Value) => p.1 = q.1 ∧ H q.2.1 = some (.tup (p.1.map kV)) ∧ RelV p.2 q.2.2) kvs xs ∧
      ∃ o es ep, h.get? a = some o ∧ o.ExactDict ∧ o.data = .dict es ep ∧ es.toList = xs.map (entryOfKey (tupleKind (mixKind P w))) ∧ (xs.map (·.1)).Nodup
  | .set S n => h.SetOf (intKind P w) a S n
  | .ins C dx fs => H dx = some (.own a) ∧ fs.length ≤ 1000 ∧ dx ≠ a ∧ h.get? a = some (PySem.W.instObj C dx) ∧
      ∃ mA, h.Ns1 dx mA ∧ (∀ f, RelO (fs.lookup f) (mA f)) ∧ PySem.Within mA (fs.map (·.1))
  | .own _ => ∃ o, h.get? a = some o
  | .xd fs => ∃ mA, h.Ns1 a mA ∧ ∀ f, RelO (fs.lookup f) (mA f)
  | .rng lo hi => ∃ t u v, h.get? a = some { cls := .type "range", data := .fields #[.int lo t, .int hi u, .int 1 v] }
  | .frz o u => h.get? a = some o ∧ ObjOk H h a u
  | .tbl ps => h.get? a = some { cls := .none, data := .fields ps }
  | .met f x => h.get? a = some (PySem.W.methodObj (.ref f) (.ref x))
  | .ext φ => φ h ∧ (∃ o, h.get? a = some o) ∧ ∀ h1 h2 : Heap, φ h1 → (∀ o, h1.get? a = some o → h2.get? a = some o) → φ h2
/-- the abstract heap is held -/
def HOk (H : Hp) (h : Heap) : Prop := ∀ a o, H a = some o → ObjOk P w H h a o
end

section
variable {P : Program} {w : World} {H H' : Hp} {h h' : Heap} {a : Addr} {o : HO}
theorem ObjOk.lt (x : ObjOk P w H h a o) : a < h.objs.size := by
  cases o with
  | lst xs => obtain ⟨_, _, _, _, e⟩ := x; exact Heap.lt_size e
  | tup xs => obtain ⟨_, _, _, p⟩ := x; exact p.lt
  | dK kvs => obtain ⟨_, _, _, _, o, _, _, e, _⟩ := x; exact Heap.lt_size e
  | dT kvs => obtain ⟨_, _, _, _, o, _, _, e, _⟩ := x; exact Heap.lt_size e
  | set S n => obtain ⟨o, _, _, _, e, _⟩ := x; exact Heap.lt_size e
  | ins C dx fs => obtain ⟨_, _, _, e, _⟩ := x; exact Heap.lt_size e
  | own y => obtain ⟨_, e⟩ := x; exact Heap.lt_size e
  | xd fs => obtain ⟨_, ⟨_, _, _, e, _⟩, _⟩ := x; exact Heap.lt_size e
  | rng lo hi => obtain ⟨_, _, _, e⟩ := x; exact Heap.lt_size e
  | frz ob u => obtain ⟨e, _⟩ := x; exact Heap.lt_size e
  | tbl ps => exact Heap.lt_size (show h.get? a = some _ from x)
  | met f y => exact Heap.lt_size (show h.get? a = some _ from x)
  | ext φ => obtain ⟨_, ⟨_, e⟩, _⟩ := x; exact Heap.lt_size e
theorem Paired.mapP {α β : Type} {F G : α → β → Prop} : ∀ {l₁ : List α} {l₂ : List β}, Paired F l₁ l₂ → (∀ a b, F a b → G a b) → Paired G l₁ l₂
  | _, _, .nil, _ => .nil
  | _, _, .cons r t, f => .cons (f _ _ r) (Paired.mapP t f)
theorem Paired.imp' {α β : Type} {F G : α → β → Prop} (f : ∀ a b, F a b → G a b) {l₁ : List α} {l₂ : List β} (r : Paired F l₁ l₂) : Paired G l₁ l₂ := Paired.mapP r f
/-- what an object's description leans on: its own object, its own dict, the tuples -/
theorem ObjOk.stay (x : ObjOk P w H h a o) (k : ∀ b u, (b = a ∨ H b = some (.own a)) → h.get? b = some u → h'.get? b = some u)
    (ho : ∀ b, H b = some (.own a) → H' b = some (.own a)) (ht : ∀ b xs, H b = some (.tup xs) → H' b = some (.tup xs)) : ObjOk P w H' h' a o := by
  induction o with
  | lst xs => obtain ⟨z, its, n, r, e⟩ := x; exact ⟨z, its, n, r, k _ _ (.inl rfl) e⟩
  | tup xs => obtain ⟨z, its, r, ob, e, c⟩ := x; exact ⟨z, its, r, ob, k _ _ (.inl rfl) e, c⟩
  | dK kvs => obtain ⟨z, y, vs, r, ob, es, ep, e, c⟩ := x; exact ⟨z, y, vs, r, ob, es, ep, k _ _ (.inl rfl) e, c⟩
  | dT kvs =>
    obtain ⟨z, y, xs, r, ob, es, ep, e, c⟩ := x
    exact ⟨z, y, xs, Paired.mapP r fun p q z => ⟨z.1, ht _ _ z.2.1, z.2.2⟩, ob, es, ep, k _ _ (.inl rfl) e, c⟩
  | set S n => obtain ⟨ob, es, ep, t, e, c⟩ := x; exact ⟨ob, es, ep, t, k _ _ (.inl rfl) e, c⟩
  | ins C dx fs =>
    obtain ⟨d, z, ne, e, mA, ⟨od, es, ep, e2, c⟩, r⟩ := x
    exact ⟨ho _ d, z, ne, k _ _ (.inl rfl) e, mA, ⟨od, es, ep, k _ _ (.inr d) e2, c⟩, r⟩
  | own y => obtain ⟨ob, e⟩ := x; exact ⟨ob, k _ _ (.inl rfl) e⟩
  | xd fs => obtain ⟨mA, ⟨od, es, ep, e, c⟩, r⟩ := x; exact ⟨mA, ⟨od, es, ep, k _ _ (.inl rfl) e, c⟩, r⟩
  | rng lo hi => obtain ⟨t, u, v, e⟩ := x; exact ⟨t, u, v, k _ _ (.inl rfl) e⟩
  | frz ob u ih => obtain ⟨e, q⟩ := x; exact ⟨k _ _ (.inl rfl) e, ih q⟩
  | tbl ps =>
    have e : h.get? a = some { cls := .none, data := .fields ps } := x
    show h'.get? a = some { cls := .none, data := .fields ps }
    exact k a _ (.inl rfl) e
  | met f y =>
    have e : h.get? a = some (PySem.W.methodObj (.ref f) (.ref y)) := x
    show h'.get? a = some (PySem.W.methodObj (.ref f) (.ref y))
    exact k a _ (.inl rfl) e
  | ext φ => obtain ⟨p, ⟨o, e⟩, st⟩ := x; exact ⟨st _ _ p fun o q => k _ _ (.inl rfl) q, ⟨o, k _ _ (.inl rfl) e⟩, st⟩
theorem HOk.lt (x : HOk P w H h) (e : H a = some o) : a < h.objs.size := (x a o e).lt
theorem HOk.fresh (x : HOk P w H h) (e : h.objs.size ≤ a) : H a = none := by
  cases q : H a with
  | none => rfl
  | some u => exact absurd (Nat.lt_of_lt_of_le (x.lt q) e) (Nat.lt_irrefl _)
/-- every object of the heap is kept -/
theorem HOk.kept (x : HOk P w H h) (k : ∀ b u, h.get? b = some u → h'.get? b = some u) : HOk P w H h' := fun a o e =>
  (x a o e).stay (fun b u _ q => k b u q) (fun _ q => q) fun _ _ q => q
/-- a new object is laid and tracked -/
theorem HOk.laid (x : HOk P w H h) (k : ∀ b u, h.get? b = some u → h'.get? b = some u) (hp : h.objs.size ≤ a) (new : ObjOk P w (upd H a o) h' a o) : HOk P w (upd H a o) h' := fun b u e => by
  have hn := x.fresh hp
  by_cases hb : b = a
  · subst hb; rw [upd_same] at e; cases e; exact new
  · rw [upd_ne hb] at e
    exact (x b u e).stay (fun c v _ q => k c v q) (fun c q => by rw [upd_ne (ne_of_none q hn)]; exact q) fun c xs q => by rw [upd_ne (ne_of_none q hn)]; exact q
end

/-- what may be read as u: it is u, or a known u -/
def Rd (H : Hp) (a : Addr) (u : HO) : Prop := H a = some u ∨ ∃ o, H a = some (.frz o u)
theorem Rd.of {H : Hp} {a : Addr} {u : HO} (h : H a = some u) : Rd H a u := .inl h
theorem Rd.ok {P : Program} {w : World} {H : Hp} {h : Heap} {a : Addr} {u : HO} (r : Rd H a u) (x : HOk P w H h) : ObjOk P w H h a u := by
  rcases r with r | ⟨o, r⟩
  · exact x a u r
  · obtain ⟨_, q⟩ := x a _ r
    exact q
/-- what may be written -/
def Mut : Option HO → Prop
  | some (.lst _) => True
  | some (.dK _) => True
  | some (.dT _) => True
  | some (.set _ _) => True
  | some (.ins _ _ _) => True
  | some (.ext _) => True
  | _ => False
section
variable {P : Program} {w : World} {H : Hp} {h h' : Heap} {x e : Addr} {o' : HO}
/-- the object at e is changed: x itself, or the dict of the instance x -/
theorem HOk.write (ok : HOk P w H h) (mu : Mut (H x)) (he : e = x ∨ H e = some (.own x)) (k : ∀ b u, b ≠ e → h.get? b = some u → h'.get? b = some u) (heo : ∃ u, h'.get? e = some u)
    (new : ObjOk P w (upd H x o') h' x o') : HOk P w (upd H x o') h' := fun b u q => by
  have nown : ∀ c y, H c = some (.own y) → c ≠ x := fun c y r z => by subst z; rw [r] at mu; exact mu
  have ntup : ∀ c xs, H c = some (.tup xs) → c ≠ x := fun c xs r z => by subst z; rw [r] at mu; exact mu
  by_cases hb : b = x
  · subst hb; rw [upd_same] at q; cases q; exact new
  · rw [upd_ne hb] at q
    by_cases hbe : b = e
    · have q' : H b = some (.own x) := by
        rcases he with z | z
        · exact absurd (hbe.trans z) hb
        · rw [hbe]; exact z
      rw [q] at q'; cases q'
      obtain ⟨v, hv⟩ := heo
      exact ⟨v, by rw [hbe]; exact hv⟩
    · refine (ok b u q).stay (fun c v hc r => k c v ?_ r) (fun c r => by rw [upd_ne (nown c b r)]; exact r) fun c xs r => by rw [upd_ne (ntup c xs r)]; exact r
      rcases hc with rfl | hc
      · exact hbe
      · rintro rfl
        rcases he with z | z
        · exact nown c b hc z
        · rw [hc] at z; cases z; exact hb rfl
end

/-! ### kept unless tracked; of the frames at fs (the callers') the slots may change (an exception that passes writes there); of the records at ex (iterators) nothing is said -/
structure Un (fs ex : List Addr) (H H' : Hp) (h h' : Heap) : Prop where
  keep : ∀ b o, h.get? b = some o → H b = none → b ∉ fs → b ∉ ex → h'.get? b = some o
  slot : ∀ b o, h.get? b = some o → H b = none → b ∈ fs → b ∉ ex → ∃ sl, h'.get? b = some { o with slots := sl }
  free : ∀ b o, h.get? b = some o → H b = none → b ∉ ex → H' b = none
  there : ∀ b o, h.get? b = some o → b ∉ ex → ∃ o', h'.get? b = some o'
  tups : ∀ b xs, H b = some (.tup xs) → H' b = some (.tup xs)
  frzs : ∀ b o u, H b = some (.frz o u) → H' b = some (.frz o u)
  tbls : ∀ b ps, H b = some (.tbl ps) → ∃ more, H' b = some (.tbl (ps ++ more))
section
variable {fs fs' ex ex' : List Addr} {H H1 H2 : Hp} {h h1 h2 h' : Heap} {a x e : Addr} {o : HO}
theorem Un.any (u : Un fs ex H H1 h h1) {b : Addr} {ob : Obj} (q : h.get? b = some ob) (n : H b = none) (hx : b ∉ ex) : ∃ sl, h1.get? b = some { ob with slots := sl } := by
  by_cases hb : b ∈ fs
  · exact u.slot b ob q n hb hx
  · exact ⟨ob.slots, u.keep b ob q n hb hx⟩
theorem Un.trans (a : Un fs ex H H1 h h1) (b : Un fs ex H1 H2 h1 h2) : Un fs ex H H2 h h2 where
  keep := fun c ob q n hc hx => b.keep c ob (a.keep c ob q n hc hx) (a.free c ob q n hx) hc hx
  slot := fun c ob q n hc hx => by
    obtain ⟨sl, e1⟩ := a.slot c ob q n hc hx
    obtain ⟨sl', e2⟩ := b.slot c _ e1 (a.free c ob q n hx) hc hx
    exact ⟨sl', e2⟩
  free := fun c ob q n hx => by
    obtain ⟨o', e1⟩ := a.there c ob q hx
    exact b.free c o' e1 (a.free c ob q n hx) hx
  there := fun c ob q hx => by
    obtain ⟨o', e1⟩ := a.there c ob q hx
    exact b.there c o' e1 hx
  tups := fun c xs q => b.tups c xs (a.tups c xs q)
  frzs := fun c ob xs q => b.frzs c ob xs (a.frzs c ob xs q)
  tbls := fun c ps q => by
    obtain ⟨m1, e1⟩ := a.tbls c ps q
    obtain ⟨m2, e2⟩ := b.tbls c _ e1
    exact ⟨m1 ++ m2, by rw [e2, Array.append_assoc]⟩
theorem Un.kept (k : ∀ b u, h.get? b = some u → h'.get? b = some u) : Un fs ex H H h h' :=
  ⟨fun b ob q _ _ _ => k b ob q, fun b ob q _ _ _ => ⟨ob.slots, k b ob q⟩, fun _ _ _ n _ => n, fun b ob q _ => ⟨ob, k b ob q⟩, fun _ _ q => q, fun _ _ _ q => q, fun _ ps q => ⟨#[], by rw [q]; simp⟩⟩
theorem Un.refl : Un fs ex H H h h := Un.kept fun _ _ q => q
theorem Un.laid (k : ∀ b u, h.get? b = some u → h'.get? b = some u) (hp : h.objs.size ≤ a) (hn : H a = none) : Un fs ex H (upd H a o) h h' where
  keep := fun b u q _ _ _ => k b u q
  slot := fun b u q _ _ _ => ⟨u.slots, k b u q⟩
  free := fun b u q n _ => by rw [upd_ne (Nat.ne_of_lt (Nat.lt_of_lt_of_le (Heap.lt_size q) hp))]; exact n
  there := fun b u q _ => ⟨u, k b u q⟩
  tups := fun b xs q => by rw [upd_ne (ne_of_none q hn)]; exact q
  frzs := fun b u xs q => by rw [upd_ne (ne_of_none q hn)]; exact q
  tbls := fun b ps q => ⟨#[], by rw [upd_ne (ne_of_none q hn), q]; simp⟩
theorem Un.write (mu : Mut (H x)) (he : e = x ∨ H e = some (.own x)) (k : ∀ b u, b ≠ e → h.get? b = some u → h'.get? b = some u) (heo : ∃ u, h'.get? e = some u) : Un fs ex H (upd H x o) h h' := by
  have hx : ∀ b, H b = none → b ≠ x := fun b n z => by subst z; rw [n] at mu; exact mu
  have hb : ∀ b, H b = none → b ≠ e := fun b n z => by
    subst z
    rcases he with r | r
    · exact hx b n r
    · rw [n] at r; cases r
  have hm : ∀ b u, H b = some u → ¬ Mut (some u) → b ≠ x := fun b u q nm z => by subst z; rw [q] at mu; exact nm mu
  refine ⟨fun b u q n _ _ => k b u (hb b n) q, fun b u q n _ _ => ⟨u.slots, k b u (hb b n) q⟩, fun b u q n _ => by rw [upd_ne (hx b n)]; exact n, fun b u q _ => ?_,
    fun b xs q => by rw [upd_ne (hm b _ q fun z => z)]; exact q, fun b u xs q => by rw [upd_ne (hm b _ q fun z => z)]; exact q, fun b ps q => ⟨#[], by rw [upd_ne (hm b _ q fun z => z), q]; simp⟩⟩
  by_cases hbe : b = e
  · subst hbe; exact heo
  · exact ⟨u, k b u hbe q⟩
theorem Un.mono (u : Un fs ex H H1 h h1) (hs : ∀ b ∈ fs, b ∈ fs') (hx : ∀ b ∈ ex, b ∈ ex') : Un fs' ex' H H1 h h1 :=
  ⟨fun b ob q n hb he => u.keep b ob q n (fun z => hb (hs b z)) fun z => he (hx b z), fun _ _ q n _ he => u.any q n fun z => he (hx _ z), fun b ob q n he => u.free b ob q n fun z => he (hx b z), fun b ob q he => u.there b ob q fun z => he (hx b z), u.tups, u.frzs, u.tbls⟩
end

/-! ### the heap without what is tracked -/
def trk (h : Heap) (H : Hp) : List Addr := (List.range h.objs.size).filter fun a => (H a).isSome
def hidT (h : Heap) (H : Hp) : Heap := PySem.W.hideAll h (trk h H)
theorem hidT_size (h : Heap) (H : Hp) : (hidT h H).objs.size = h.objs.size := PySem.W.hideAll_size _ _
theorem hidT_get {h : Heap} {H : Hp} {b : Addr} {o : Obj} (e : h.get? b = some o) (n : H b = none) : (hidT h H).get? b = some o :=
  PySem.W.hideAll_get _ e fun hm => by
    have q : (H b).isSome = true := (List.mem_filter.mp hm).2
    rw [n] at q; simp at q
theorem of_hidT {h : Heap} {H : Hp} {b : Addr} {o : Obj} (e : (hidT h H).get? b = some o) : h.get? b = some o ∧ H b = none := by
  have e' : h.get? b = some o := PySem.W.of_hideAll (trk h H) e
  refine ⟨e', ?_⟩
  cases q : H b with
  | none => rfl
  | some x =>
    have hm : b ∈ trk h H := List.mem_filter.mpr ⟨List.mem_range.mpr (Heap.lt_size e'), by simp [q]⟩
    have z : (hidT h H).get? b = none := PySem.W.hideAll_none (trk h H) hm
    rw [z] at e; cases e

/-! ### OpenK's ledger, filled with every new object but one -/
def allNews (g h : Heap) (L : Addr) : List (Addr × Obj) := (List.range h.objs.size).filterMap fun a => if a = L ∨ (g.get? a).isSome = true then none else (h.get? a).map fun o => (a, o)
theorem mem_allNews {g h : Heap} {L a : Addr} {o : Obj} (h1 : a ≠ L) (h2 : g.get? a = none) (h3 : h.get? a = some o) : (a, o) ∈ allNews g h L :=
  List.mem_filterMap.mpr ⟨a, List.mem_range.mpr (Heap.lt_size h3), by simp [h1, h2, h3]⟩
theorem of_mem_allNews {g h : Heap} {L : Addr} {p : Addr × Obj} (hp : p ∈ allNews g h L) : p.1 ≠ L ∧ g.get? p.1 = none ∧ h.get? p.1 = some p.2 := by
  obtain ⟨b, _, e⟩ := List.mem_filterMap.mp hp
  split at e
  · cases e
  · rename_i hn
    cases q : h.get? b with
    | none => rw [q] at e; simp at e
    | some u =>
      rw [q] at e
      simp only [Option.map_some, Option.some.injEq] at e
      subst e
      refine ⟨fun z => hn (.inl z), ?_, q⟩
      show g.get? b = none
      cases r : g.get? b with
      | none => rfl
      | some v => exact (hn (.inr (by simp [r]))).elim
def rest (g h : Heap) (L d : Addr) : List (Addr × Obj) := (allNews g h L).filter fun p => decide (p.1 ≠ d)
theorem rest_ne {g h : Heap} {L d : Addr} : ∀ p ∈ rest g h L d, p.1 ≠ d := fun p hp => of_decide_eq_true (List.mem_filter.mp hp).2
theorem mem_rest {g h : Heap} {L d a : Addr} {o : Obj} (h1 : a ≠ L) (h2 : g.get? a = none) (h3 : h.get? a = some o) (h4 : a ≠ d) : (a, o) ∈ rest g h L d :=
  List.mem_filter.mpr ⟨mem_allNews h1 h2 h3, decide_eq_true h4⟩
theorem news_all {g h : Heap} {L : Addr} : News g L h (allNews g h L) := fun p hp => let ⟨a, b, c⟩ := of_mem_allNews hp; ⟨c, a, b⟩
theorem news_at {g h : Heap} {L d : Addr} {o : Obj} (h1 : d ≠ L) (h2 : g.get? d = none) (h3 : h.get? d = some o) : News g L h ((d, o) :: rest g h L d) := fun p hp => by
  rcases List.mem_cons.mp hp with rfl | hp
  · exact ⟨h3, h1, h2⟩
  · exact news_all p (List.mem_filter.mp hp).1
/-- behind a rule that changed d alone: all else but the frame is kept -/
theorem kept_of_news {g h h' : Heap} {L d : Addr} {m : Str → Option Value} (k : ∀ b o, g.get? b = some o → h.get? b = some o) (F : Fr g L h' m) (N : News g L h' (rest g h L d)) :
    ∀ b o, b ≠ L → b ≠ d → h.get? b = some o → h'.get? b = some o := fun b o h1 h2 e => by
  cases q : g.get? b with
  | some u =>
    have := k b u q
    rw [e] at this; cases this
    exact F.keep b _ q
  | none => exact (N (b, o) (mem_rest h1 q e h2)).1
end L2

namespace L2
open PySem PySem.Spec PyProof.Rows

/-- the module's facts, over the base: the heap at the law's entry without what is tracked there -/
structure Mod (K : PySem.W.Frag) (mg : Str → Option Value) (base : Heap) : Prop where
  kin : K.In base
  glob : base.Ns mainGlobals mg
  blt : ∃ mb, base.Ns builtinsNs mb ∧ ∀ x : Str, x ≠ "__name__" → mb x = bootBuiltins x
  nolimit : base.NoLimit

/-- the context: a def's body (or a comprehension's block) running. base: fixed through the whole law; s₀, H₀: the entry; outer: the frames whose slots others may change (a def's callers); stack: all frames that run;
   ex: iterators that were made ahead of the entry and are walked here (a comprehension's); fn: the names whose cells were made at the entry (a def: all; a comprehension's block: its own); calm: not within an except suite; pn: pins that every state bears; xe: what is wanted of an exception that leaves the code -/
structure Cx where
  prog : Program
  w : World
  K : PySem.W.Frag
  mg : Str → Option Value
  base : Heap
  A : Around
  N : List Str
  s₀ : Shared
  H₀ : Hp
  env : Env
  outer : List Env
  stack : List Env
  ex : List Addr
  fn : Str → Bool
  calm : Bool
  pn : List (Addr × Obj)
  xe : Value → Shared → Prop
/-- the callers' frames -/
def frs (l : List Env) : List Addr := l.filterMap (·.frame)
abbrev Cx.fs (X : Cx) : List Addr := frs X.outer

def Vis (sc : Scope) (x : Str) : Prop := sc.names.lookup x = some .local ∨ sc.names.lookup x = some .cell ∨ sc.names.lookup x = some .free
def Loc (sc : Scope) (x : Str) : Prop := sc.names.lookup x = some .local ∨ sc.names.lookup x = some .cell
def Look (env : Env) (h : Heap) (m : Str → Option Value) (x : Str) (u : Value) : Prop :=
  (env.kindOf x = some .local ∧ m x = some u) ∨ ((env.kindOf x = some .cell ∨ env.kindOf x = some .free) ∧ ∃ c, env.cells.lookup x = some c ∧ h.IsCell c (some u))

structure Cx.Ok (X : Cx) : Prop where
  mod : Mod X.K X.mg X.base
  kind : X.env.scope.kind = .function
  glob : X.env.globals = mainGlobals
  blt : X.env.builtins = builtinsNs
  above : X.s₀.heap.objs.size ≤ X.env.locals
  inj : ∀ x y c, X.env.cells.lookup x = some c → X.env.cells.lookup y = some c → x = y
  has : ∀ x, (X.env.kindOf x = some .cell ∨ X.env.kindOf x = some .free) → ∃ c, X.env.cells.lookup x = some c
  cab : ∀ x c, X.fn x = true → X.env.cells.lookup x = some c → X.s₀.heap.objs.size ≤ c
  hd : X.calm = true → X.A.handled = none
  frames : X.A.frames = some X.stack
  stk : X.stack = X.outer ∨ (X.stack = X.env :: X.outer ∧ X.env.frame = some X.env.locals)
  exf : ∀ b ∈ X.ex, b ≠ X.env.locals ∧ ∀ x c, X.env.cells.lookup x = some c → c ≠ b
  bs : ∀ b o, X.base.get? b = some o → X.s₀.heap.get? b = some o ∧ X.H₀ b = none
  bsz : X.base.objs.size ≤ X.s₀.heap.objs.size
  noex : ∀ b o, X.base.get? b = some o → b ∉ X.ex
  exfs : ∀ b ∈ X.ex, b ∉ X.fs
  funs : X.s₀.heap.FunFrames X.base X.outer
  frf : ∀ b ∈ X.fs, X.H₀ b = none

structure Inv (X : Cx) (pins : List (Addr × Obj)) (σ : List (Option V)) (H : Hp) (s : Shared) : Prop where
  ok : X.Ok
  os : s.os = X.s₀.os
  bare : AllBare s.gens
  base : Un X.fs X.ex X.H₀ H X.s₀.heap s.heap
  loc : ∃ m, s.heap.Ns X.env.locals m ∧ ∀ (i : Nat) (x : Str) (v : V), X.N[i]? = some x → σ[i]? = some (some v) → Vis X.env.scope x → ∃ u, RelV v u ∧ Look X.env s.heap m x u
  cell : ∀ x c, X.env.cells.lookup x = some c → ∃ v, s.heap.IsCell c v
  free : H X.env.locals = none
  freeC : ∀ x c, X.env.cells.lookup x = some c → H c = none
  pin : ∀ p ∈ X.pn ++ pins, s.heap.get? p.1 = some p.2 ∧ H p.1 = none ∧ p.1 ≠ X.env.locals ∧ p.1 ∉ X.fs ∧ ∀ v, p.2.data ≠ .cell v
  hok : HOk X.prog X.w H s.heap
  len : σ.length = X.N.length

section
variable {X : Cx} {pins : List (Addr × Obj)} {σ : List (Option V)} {H H' : Hp} {s : Shared} {h' : Heap}

theorem Cx.Ok.nofr (ok : X.Ok) {b : Addr} {o : Obj} (e : X.base.get? b = some o) : b ∉ X.fs := fun hb => by
  have := (ok.funs.mem hb).1
  rw [e] at this; cases this
theorem Inv.bs (I : Inv X pins σ H s) : ∀ b o, X.base.get? b = some o → s.heap.get? b = some o ∧ H b = none := fun b o e =>
  ⟨I.base.keep b o (I.ok.bs b o e).1 (I.ok.bs b o e).2 (I.ok.nofr e) (I.ok.noex b o e), I.base.free b o (I.ok.bs b o e).1 (I.ok.bs b o e).2 (I.ok.noex b o e)⟩
theorem Inv.bk (I : Inv X pins σ H s) : ∀ b o, X.base.get? b = some o → s.heap.get? b = some o := fun b o e => (I.bs b o e).1
theorem Inv.mod (I : Inv X pins σ H s) : Mod X.K X.mg X.base := I.ok.mod
theorem Inv.kIn (I : Inv X pins σ H s) : X.K.In s.heap := I.ok.mod.kin.keeps I.bk
theorem Inv.nolimit (I : Inv X pins σ H s) : s.heap.NoLimit := I.ok.mod.nolimit.keeps I.bk
/-- the frame over the base: for OpenK's rules (K.In X.base is I.mod.kin) -/
theorem Inv.fr (I : Inv X pins σ H s) : ∃ m, Fr X.base X.env.locals s.heap m :=
  let ⟨m, hn, _⟩ := I.loc
  ⟨m, hn, I.bk, Nat.le_trans I.ok.bsz I.ok.above⟩
theorem Inv.lt (I : Inv X pins σ H s) : X.env.locals < s.heap.objs.size := let ⟨_, hn, _⟩ := I.loc; hn.lt
theorem Inv.sz (I : Inv X pins σ H s) : X.s₀.heap.objs.size ≤ s.heap.objs.size := Nat.le_trans I.ok.above (Nat.le_of_lt I.lt)
theorem Inv.nofs (I : Inv X pins σ H s) {a : Addr} (h : s.heap.objs.size ≤ a) : a ∉ X.fs := fun hb => by
  obtain ⟨_, o, ho, _⟩ := I.ok.funs.mem hb
  exact absurd (Nat.lt_of_lt_of_le (Heap.lt_size ho) (Nat.le_trans I.sz h)) (Nat.lt_irrefl _)
theorem Inv.cne (I : Inv X pins σ H s) : ∀ x c, X.env.cells.lookup x = some c → c ≠ X.env.locals := fun x c e z => by
  obtain ⟨v, o, ho, hd⟩ := I.cell x c e
  obtain ⟨m, ⟨o', es, ep, ho', hd', _⟩, _⟩ := I.loc
  rw [z, ho'] at ho; cases ho; rw [hd'] at hd; cases hd
theorem Inv.funs (I : Inv X pins σ H s) : s.heap.FunFrames X.base X.outer := by
  have all : ∀ (l : List Env), (∀ b ∈ frs l, b ∈ X.fs) → X.s₀.heap.FunFrames X.base l → s.heap.FunFrames X.base l := by
    intro l
    induction l with
    | nil => intro _ _; trivial
    | cons env r ih =>
      intro hs hl
      obtain ⟨hk, ⟨L, o, hf, hn, ho, hd⟩, hr⟩ := hl
      have hL : L ∈ X.fs := hs L (by unfold frs; rw [List.filterMap_cons, hf]; exact List.mem_cons_self)
      obtain ⟨sl, e⟩ := I.base.slot L o ho (I.ok.frf L hL) hL fun z => I.ok.exfs L z hL
      exact ⟨hk, ⟨L, _, hf, hn, e, hd⟩, ih (fun b hb => hs b (by unfold frs; rw [List.filterMap_cons, hf]; exact List.mem_cons_of_mem _ hb)) hr⟩
  exact all X.outer (fun _ hb => hb) I.ok.funs

/-- the frames that run, for a call -/
theorem Inv.stack (I : Inv X pins σ H s) : s.heap.FunFrames X.base X.stack := by
  rcases I.ok.stk with e | ⟨e, hf⟩
  · rw [e]; exact I.funs
  · rw [e]
    obtain ⟨m, hn, _⟩ := I.loc
    refine .cons (by rw [I.ok.kind]; decide) hf hn ?_ I.funs
    exact Heap.get?_none_of_le (Nat.le_trans I.ok.bsz I.ok.above)
theorem Inv.stkSub (I : Inv X pins σ H s) : ∀ b ∈ frs X.stack, b ∈ X.env.locals :: X.fs := fun b hb => by
  rcases I.ok.stk with e | ⟨e, hf⟩
  · rw [e] at hb; exact List.mem_cons_of_mem _ hb
  · rw [e] at hb
    unfold frs at hb
    rw [List.filterMap_cons, hf] at hb
    exact hb
theorem Inv.stkFree (I : Inv X pins σ H s) : ∀ b ∈ frs X.stack, H b = none := fun b hb => by
  rcases List.mem_cons.mp (I.stkSub b hb) with e | hb
  · rw [e]; exact I.free
  · obtain ⟨_, o, ho, _⟩ := I.ok.funs.mem hb
    exact I.base.free b o ho (I.ok.frf b hb) fun z => I.ok.exfs b z hb

/-- THE STEP: the untracked objects but the frame and the records at ch are kept (the callers' frames up to slots), the frame's map is kept, the new abstract heap is held -/
theorem Inv.step {g' : Array GenState} {t' : Nat} {d' : Drawn} {ch : List Addr} (I : Inv X pins σ H s)
    (hch : ∀ b ∈ ch, (b ∈ X.ex ∨ X.s₀.heap.objs.size ≤ b) ∧ b ≠ X.env.locals ∧ (∀ x c, X.env.cells.lookup x = some c → c ≠ b) ∧ ∀ p ∈ X.pn ++ pins, p.1 ≠ b)
    (keep : ∀ b o, b ≠ X.env.locals → b ∉ X.fs → b ∉ ch → s.heap.get? b = some o → H b = none → h'.get? b = some o)
    (slot : ∀ b o, b ≠ X.env.locals → b ∈ X.fs → b ∉ ch → s.heap.get? b = some o → H b = none → ∃ sl, h'.get? b = some { o with slots := sl }) (free : ∀ b o, b ∉ ch → s.heap.get? b = some o → H b = none → H' b = none)
    (there : ∀ b o, b ∉ ch → s.heap.get? b = some o → ∃ o', h'.get? b = some o')
    (tups : ∀ b xs, H b = some (.tup xs) → H' b = some (.tup xs)) (frzs : ∀ b o u, H b = some (.frz o u) → H' b = some (.frz o u)) (tbls : ∀ b ps, H b = some (.tbl ps) → ∃ more, H' b = some (.tbl (ps ++ more)))
    (ns : ∀ m, s.heap.Ns X.env.locals m → h'.Ns X.env.locals m) (hok : HOk X.prog X.w H' h') (hg : AllBare g') :
    Inv X pins σ H' { s with heap := h', gens := g', drawn := d', toks := t' } := by
  have neL : ∀ b o, X.s₀.heap.get? b = some o → b ≠ X.env.locals := fun b o e => Nat.ne_of_lt (Nat.lt_of_lt_of_le (Heap.lt_size e) I.ok.above)
  have neC : ∀ b o, X.s₀.heap.get? b = some o → b ∉ X.ex → b ∉ ch := fun b o e hx hb => by
    rcases (hch b hb).1 with z | z
    · exact hx z
    · exact absurd (Nat.lt_of_lt_of_le (Heap.lt_size e) z) (Nat.lt_irrefl _)
  have cellK : ∀ x c, X.env.cells.lookup x = some c → ∀ v, s.heap.IsCell c v → h'.IsCell c v := fun x c e v ⟨o, ho, hd⟩ => by
    have nch : c ∉ ch := fun z => (hch c z).2.2.1 x c e rfl
    by_cases hc : c ∈ X.fs
    · obtain ⟨sl, q⟩ := slot c o (I.cne x c e) hc nch ho (I.freeC x c e)
      exact ⟨_, q, hd⟩
    · exact ⟨o, keep c o (I.cne x c e) hc nch ho (I.freeC x c e), hd⟩
  refine ⟨I.ok, I.os, hg, ⟨fun b o e n hb hx => ?_, fun b o e n hb hx => ?_, fun b o e n hx => ?_, fun b o e hx => ?_, fun b xs e => tups b xs (I.base.tups b xs e), fun b o xs e => frzs b o xs (I.base.frzs b o xs e), fun b ps e => ?_⟩, ?_, fun x c e => ?_, ?_, fun x c e => ?_, fun p hp => ?_, hok, I.len⟩
  · exact keep b o (neL b o e) hb (neC b o e hx) (I.base.keep b o e n hb hx) (I.base.free b o e n hx)
  · obtain ⟨sl, e1⟩ := I.base.slot b o e n hb hx
    obtain ⟨sl', e2⟩ := slot b _ (neL b o e) hb (neC b o e hx) e1 (I.base.free b o e n hx)
    exact ⟨sl', e2⟩
  · obtain ⟨o', e1⟩ := I.base.there b o e hx
    exact free b o' (neC b o e hx) e1 (I.base.free b o e n hx)
  · obtain ⟨o', e1⟩ := I.base.there b o e hx
    exact there b o' (neC b o e hx) e1
  · obtain ⟨m1, e1⟩ := I.base.tbls b ps e
    obtain ⟨m2, e2⟩ := tbls b _ e1
    exact ⟨m1 ++ m2, by rw [e2, Array.append_assoc]⟩
  · obtain ⟨m, hn, hl⟩ := I.loc
    refine ⟨m, ns m hn, fun i x v e1 e2 e3 => ?_⟩
    obtain ⟨u, r, l⟩ := hl i x v e1 e2 e3
    refine ⟨u, r, ?_⟩
    rcases l with l | ⟨k, c, e, z⟩
    · exact .inl l
    · exact .inr ⟨k, c, e, cellK x c e _ z⟩
  · obtain ⟨v, z⟩ := I.cell x c e
    exact ⟨v, cellK x c e v z⟩
  · obtain ⟨m, ⟨o, _, _, ho, _⟩, _⟩ := I.loc
    exact free _ o (fun z => (hch _ z).2.1 rfl) ho I.free
  · obtain ⟨v, o, ho, hd⟩ := I.cell x c e
    exact free c o (fun z => (hch c z).2.2.1 x c e rfl) ho (I.freeC x c e)
  · obtain ⟨e, n, ne, nf, d⟩ := I.pin p hp
    have nch : p.1 ∉ ch := fun z => (hch p.1 z).2.2.2 p hp rfl
    exact ⟨keep p.1 p.2 ne nf nch e n, free p.1 p.2 nch e n, ne, nf, d⟩
/-- .. where the frame's own object is kept too -/
theorem Inv.un {t' : Nat} (I : Inv X pins σ H s) (u : Un X.fs [] H H' s.heap h') (hok : HOk X.prog X.w H' h') : Inv X pins σ H' { s with heap := h', toks := t' } := by
  obtain ⟨m, ⟨o, es, ep, ho, r⟩, _⟩ := id I.loc
  obtain ⟨sl, hL⟩ := u.any ho I.free (by simp)
  exact I.step (g' := s.gens) (d' := s.drawn) (ch := []) (fun _ z => nomatch z) (fun b o _ hb _ e n => u.keep b o e n hb (by simp)) (fun b o _ hb _ e n => u.slot b o e n hb (by simp)) (fun b o _ e n => u.free b o e n (by simp)) (fun b o _ e => u.there b o e (by simp)) u.tups u.frzs u.tbls (fun m' hm => by
    obtain ⟨o', es', ep', ho', r'⟩ := hm
    rw [ho] at ho'; cases ho'
    exact ⟨_, es', ep', hL, r'⟩) hok I.bare
/-- behind a call (or a comprehension's block): the slots of this frame may have changed too, the records at ch may have turned -/
theorem Inv.call {g' : Array GenState} {t' : Nat} {d' : Drawn} {ch : List Addr} (I : Inv X pins σ H s) (u : Un (frs X.stack) ch H H' s.heap h') (hok : HOk X.prog X.w H' h') (hg : AllBare g')
    (hch : ∀ b ∈ ch, (b ∈ X.ex ∨ X.s₀.heap.objs.size ≤ b) ∧ b ≠ X.env.locals ∧ (∀ x c, X.env.cells.lookup x = some c → c ≠ b) ∧ ∀ p ∈ X.pn ++ pins, p.1 ≠ b) :
    Inv X pins σ H' { s with heap := h', gens := g', drawn := d', toks := t' } := by
  obtain ⟨m, ⟨o, es, ep, ho, r⟩, _⟩ := id I.loc
  obtain ⟨sl, hL⟩ := u.any ho I.free fun z => (hch _ z).2.1 rfl
  exact I.step (ch := ch) hch (fun b o hL hb hc e n => u.keep b o e n (fun z => (List.mem_cons.mp (I.stkSub b z)).elim hL hb) hc) (fun b o _ _ hc e n => u.any e n hc) (fun b o hc e n => u.free b o e n hc) (fun b o hc e => u.there b o e hc) u.tups u.frzs u.tbls (fun m' hm => by
    obtain ⟨o', es', ep', ho', r'⟩ := hm
    rw [ho] at ho'; cases ho'
    exact ⟨_, es', ep', hL, r'⟩) hok hg
/-- an untracked record of ours (an iterator) has turned -/
theorem Inv.turned {t' : Nat} {it : Addr} (I : Inv X pins σ H s) (k : ∀ b o, b ≠ it → s.heap.get? b = some o → h'.get? b = some o) (hn : H it = none) (hL : it ≠ X.env.locals)
    (h1 : it ∈ X.ex ∨ X.s₀.heap.objs.size ≤ it) (h2 : ∀ x c, X.env.cells.lookup x = some c → c ≠ it) (h3 : ∀ p ∈ X.pn ++ pins, p.1 ≠ it) : Inv X pins σ H { s with heap := h', toks := t' } := by
  have nit : ∀ b u, H b = some u → b ≠ it := fun b u e z => by rw [z, hn] at e; cases e
  refine I.step (g' := s.gens) (d' := s.drawn) (ch := [it]) (fun b hb => ?_) (fun b o _ _ hc e _ => k b o (fun z => hc (by simp [z])) e) (fun b o _ _ hc e _ => ⟨o.slots, k b o (fun z => hc (by simp [z])) e⟩) (fun _ _ _ _ n => n)
    (fun b o hc e => ⟨o, k b o (fun z => hc (by simp [z])) e⟩) (fun _ _ e => e) (fun _ _ _ e => e) (fun b ps e => ⟨#[], by rw [e]; simp⟩) (fun m hm => ?_) (fun b u e => ?_) I.bare
  · have e : b = it := by simpa using hb
    subst e
    exact ⟨h1, hL, h2, h3⟩
  · obtain ⟨o, es, ep, ho, r⟩ := hm
    exact ⟨o, es, ep, k _ o (Ne.symm hL) ho, r⟩
  · refine (I.hok b u e).stay (fun c v hc q => k c v ?_ q) (fun _ q => q) fun _ _ q => q
    rcases hc with z | z
    · rw [z]; exact nit b u e
    · exact nit c _ z
theorem Inv.tok (I : Inv X pins σ H s) (t : Nat) : Inv X pins σ H { s with toks := t } := I.un (h' := s.heap) (t' := t) Un.refl I.hok
/-- all objects kept -/
theorem Inv.kept {t' : Nat} (I : Inv X pins σ H s) (k : ∀ b u, s.heap.get? b = some u → h'.get? b = some u) : Inv X pins σ H { s with heap := h', toks := t' } := I.un (Un.kept k) (I.hok.kept k)
/-- a new object laid and tracked -/
theorem Inv.laid {a : Addr} {o : HO} {t' : Nat} (I : Inv X pins σ H s) (k : ∀ b u, s.heap.get? b = some u → h'.get? b = some u) (hp : s.heap.objs.size ≤ a) (new : ObjOk X.prog X.w (upd H a o) h' a o) :
    Inv X pins σ (upd H a o) { s with heap := h', toks := t' } := I.un (Un.laid k hp (I.hok.fresh hp)) (I.hok.laid k hp new)
/-- an object written -/
theorem Inv.write {x e : Addr} {o : HO} {t' : Nat} (I : Inv X pins σ H s) (mu : Mut (H x)) (he : e = x ∨ H e = some (.own x)) (k : ∀ b u, b ≠ e → s.heap.get? b = some u → h'.get? b = some u) (heo : ∃ u, h'.get? e = some u)
    (new : ObjOk X.prog X.w (upd H x o) h' x o) : Inv X pins σ (upd H x o) { s with heap := h', toks := t' } := I.un (Un.write mu he k heo) (I.hok.write mu he k heo new)
/-- forgetting slots, pins -/
theorem Inv.weak {σ' : List (Option V)} (I : Inv X pins σ H s) (hl : σ'.length = σ.length) (w : ∀ (i : Nat) v, σ'[i]? = some (some v) → σ[i]? = some (some v)) : Inv X pins σ' H s :=
  ⟨I.ok, I.os, I.bare, I.base, let ⟨m, hn, hl'⟩ := I.loc; ⟨m, hn, fun i x v e1 e2 e3 => hl' i x v e1 (w i v e2) e3⟩, I.cell, I.free, I.freeC, I.pin, I.hok, hl.trans I.len⟩
theorem Inv.pins_of {pins' : List (Addr × Obj)} (I : Inv X pins σ H s) (h : ∀ p ∈ pins', s.heap.get? p.1 = some p.2 ∧ H p.1 = none ∧ p.1 ≠ X.env.locals ∧ p.1 ∉ X.fs ∧ ∀ v, p.2.data ≠ .cell v) : Inv X pins' σ H s :=
  ⟨I.ok, I.os, I.bare, I.base, I.loc, I.cell, I.free, I.freeC, fun p hp => (List.mem_append.mp hp).elim (fun z => I.pin p (List.mem_append_left _ z)) (h p), I.hok, I.len⟩

theorem nodup_ix {N : List Str} (hN : N.Nodup) {i j : Nat} {x : Str} (a : N[i]? = some x) (b : N[j]? = some x) : i = j := by
  obtain ⟨h1, e1⟩ := List.getElem?_eq_some_iff.mp a
  obtain ⟨h2, e2⟩ := List.getElem?_eq_some_iff.mp b
  exact (List.getElem_inj hN).mp (e1.trans e2.symm)

/-- a name is stored; what changed -/
theorem store_ok2 {M : Model} {A : Around} {E : Value → Shared → Prop} {i : Nat} {x : Str} {v : V} {u : Value} {Q : Unit → Shared → Prop} (I : Inv X pins σ H s) (hN : X.N.Nodup) (hi : X.N[i]? = some x) (hx : Loc X.env.scope x) (r : RelV v u)
    (h : ∀ s', Inv X pins (σ.set i (some v)) H s' → (∃ a, Heap.SameBut a s.heap s'.heap ∧ (a = X.env.locals ∨ X.env.cells.lookup x = some a)) → Q () s') (hf : X.fn x = true ∨ X.env.scope.names.lookup x = some .local := by first | exact .inl rfl | exact .inr rfl | assumption) : wpAny M A (storeName X.env x u) Q E s := by
  obtain ⟨m, hn, hl⟩ := id I.loc
  have hcls : (X.env.scope.kind == .class || (X.env.scope.kind == .module && X.env.locals != X.env.globals)) = false := by rw [I.ok.kind]; rfl
  have hiσ : i < σ.length := by rw [I.len]; exact (List.getElem?_eq_some_iff.mp hi).1
  have cne := I.cne
  have tracked : ∀ {a : Addr} {h' : Heap}, (∃ o, s.heap.get? a = some o ∧ H a = none) → Heap.SameBut a s.heap h' → HOk X.prog X.w H h' := fun {a h'} ha hs b ob e => by
    obtain ⟨_, _, hfree⟩ := ha
    refine (I.hok b ob e).stay (fun c w' hc q => (hs.2 c ?_).trans q) (fun _ q => q) fun _ _ q => q
    rintro rfl
    rcases hc with rfl | hc
    · rw [hfree] at e; cases e
    · rw [hfree] at hc; cases hc
  rcases hx with hk | hk
  · refine wpAny_storeName_local hk hn (fun h' hn' hs => ?_) hcls
    obtain ⟨oL, _, _, hoL, _⟩ := id hn
    refine h _ ⟨I.ok, I.os, I.bare, ⟨fun b o e n hb hx => ?_, fun b o e n hb hx => ?_, I.base.free, fun b o e hx => ?_, I.base.tups, I.base.frzs, I.base.tbls⟩, ⟨_, hn', fun j y v' e1 e2 e3 => ?_⟩, fun y c e => ?_, I.free, I.freeC, fun p hp => ?_, tracked ⟨oL, hoL, I.free⟩ hs, by simpa using I.len⟩ ⟨_, hs, .inl rfl⟩
    · exact (hs.2 b (Nat.ne_of_lt (Nat.lt_of_lt_of_le (Heap.lt_size e) I.ok.above))).trans (I.base.keep b o e n hb hx)
    · obtain ⟨sl, e1⟩ := I.base.slot b o e n hb hx
      exact ⟨sl, (hs.2 b (Nat.ne_of_lt (Nat.lt_of_lt_of_le (Heap.lt_size e) I.ok.above))).trans e1⟩
    · obtain ⟨o', e1⟩ := I.base.there b o e hx
      exact ⟨o', (hs.2 b (Nat.ne_of_lt (Nat.lt_of_lt_of_le (Heap.lt_size e) I.ok.above))).trans e1⟩
    · by_cases hj : j = i
      · subst hj
        rw [hi] at e1; cases e1
        rw [List.getElem?_set_self hiσ] at e2
        cases e2
        exact ⟨u, r, .inl ⟨hk, by simp⟩⟩
      · rw [List.getElem?_set_ne (Ne.symm hj)] at e2
        obtain ⟨u', r', q⟩ := hl j y v' e1 e2 e3
        refine ⟨u', r', ?_⟩
        rcases q with ⟨k, e⟩ | ⟨k, c, e, z⟩
        · refine .inl ⟨k, ?_⟩
          have : y ≠ x := fun e => hj (nodup_ix hN e1 (e ▸ hi))
          simp [this, e]
        · exact .inr ⟨k, c, e, z.sameBut hs (cne y c e)⟩
    · obtain ⟨w', z⟩ := I.cell y c e
      exact ⟨w', z.sameBut hs (cne y c e)⟩
    · obtain ⟨e, n, ne, nf, d⟩ := I.pin p hp
      exact ⟨(hs.2 p.1 ne).trans e, n, ne, nf, d⟩
  · have hfn : X.fn x = true := by
      rcases hf with z | z
      · exact z
      · rw [z] at hk; cases hk
    obtain ⟨c, hc⟩ := I.ok.has x (.inl hk)
    obtain ⟨w', z⟩ := I.cell x c hc
    refine wpAny_storeName_cell I.ok.kind hk hc z (fun h' hc' hs => ?_)
    obtain ⟨oc, hoc, hocd⟩ := id z
    refine h { s with heap := h' } ⟨I.ok, I.os, I.bare, ⟨fun b o e n hb hx => ?_, fun b o e n hb hx => ?_, I.base.free, fun b o e hx => ?_, I.base.tups, I.base.frzs, I.base.tbls⟩, ⟨m, hn.sameBut hs (Ne.symm (cne x c hc)), fun j y v' e1 e2 e3 => ?_⟩, fun y c' e => ?_, I.free, I.freeC, fun p hp => ?_, tracked ⟨oc, hoc, I.freeC x c hc⟩ hs, by simpa using I.len⟩ ⟨c, hs, .inr hc⟩
    · exact (hs.2 b (Nat.ne_of_lt (Nat.lt_of_lt_of_le (Heap.lt_size e) (I.ok.cab x c hfn hc)))).trans (I.base.keep b o e n hb hx)
    · obtain ⟨sl, e1⟩ := I.base.slot b o e n hb hx
      exact ⟨sl, (hs.2 b (Nat.ne_of_lt (Nat.lt_of_lt_of_le (Heap.lt_size e) (I.ok.cab x c hfn hc)))).trans e1⟩
    · obtain ⟨o', e1⟩ := I.base.there b o e hx
      exact ⟨o', (hs.2 b (Nat.ne_of_lt (Nat.lt_of_lt_of_le (Heap.lt_size e) (I.ok.cab x c hfn hc)))).trans e1⟩
    · by_cases hj : j = i
      · subst hj
        rw [hi] at e1; cases e1
        rw [List.getElem?_set_self hiσ] at e2
        cases e2
        exact ⟨u, r, .inr ⟨.inl hk, c, hc, hc'⟩⟩
      · rw [List.getElem?_set_ne (Ne.symm hj)] at e2
        obtain ⟨u', r', q⟩ := hl j y v' e1 e2 e3
        refine ⟨u', r', ?_⟩
        rcases q with q | ⟨k, c', e, z'⟩
        · exact .inl q
        · refine .inr ⟨k, c', e, z'.sameBut hs ?_⟩
          rintro rfl
          exact hj (nodup_ix hN e1 (I.ok.inj _ _ _ e hc ▸ hi))
    · by_cases hcc : c' = c
      · subst hcc; exact ⟨_, hc'⟩
      · obtain ⟨w2, z2⟩ := I.cell y c' e
        exact ⟨w2, z2.sameBut hs hcc⟩
    · obtain ⟨e, n, ne, nf, d⟩ := I.pin p hp
      refine ⟨(hs.2 p.1 ?_).trans e, n, ne, nf, d⟩
      intro q
      rw [q, hoc] at e
      have q' : oc = p.2 := Option.some.inj e
      exact d w' (by rw [← q']; exact hocd)
theorem store_ok {M : Model} {A : Around} {E : Value → Shared → Prop} {i : Nat} {x : Str} {v : V} {u : Value} {Q : Unit → Shared → Prop} (I : Inv X pins σ H s) (hN : X.N.Nodup) (hi : X.N[i]? = some x) (hx : Loc X.env.scope x) (r : RelV v u)
    (h : ∀ s', Inv X pins (σ.set i (some v)) H s' → Q () s') (hf : X.fn x = true ∨ X.env.scope.names.lookup x = some .local := by first | exact .inl rfl | exact .inr rfl | assumption) : wpAny M A (storeName X.env x u) Q E s :=
  store_ok2 I hN hi hx r (fun s' I' _ => h s' I') hf
/-- behind a call or a block, the state as it is -/
theorem Inv.call' {s' : Shared} {ch : List Addr} (I : Inv X pins σ H s) (ho : s'.os = s.os) (u : Un (frs X.stack) ch H H' s.heap s'.heap) (hok : HOk X.prog X.w H' s'.heap) (hg : AllBare s'.gens)
    (hch : ∀ b ∈ ch, (b ∈ X.ex ∨ X.s₀.heap.objs.size ≤ b) ∧ b ≠ X.env.locals ∧ (∀ x c, X.env.cells.lookup x = some c → c ≠ b) ∧ ∀ p ∈ X.pn ++ pins, p.1 ≠ b) : Inv X pins σ H' s' := by
  obtain ⟨h', g', d', t', o'⟩ := s'
  have e : o' = s.os := ho
  subst e
  exact I.call (g' := g') (t' := t') (d' := d') u hok hg hch
end

/-! ### the judgements -/
/-- an exception: its class, its own dict's address (where it has one), the abstract heap behind it -/
abbrev XK := Value → Option Addr → Hp → Prop
abbrev St := List (Option V)
abbrev VK := V → Hp → Prop
/-- an expression's reading; a test's; an argument list's -/
abbrev TE := St → Hp → VK → Prop
abbrev TT := St → Hp → (Bool → Hp → Prop) → Prop
abbrev TA := St → Hp → (List V → Hp → Prop) → Prop
/-- what is wanted behind a statement -/
structure Ends where
  nx : St → Hp → Prop
  rt : VK
  bk : St → Hp → Prop := fun _ _ => False
  ct : St → Hp → Prop := fun _ _ => False
abbrev TS := Ends → St → Hp → Prop

def EP (X : Cx) (pins : List (Addr × Obj)) (σ : St) (Q : VK) (u : Value) (s' : Shared) : Prop := ∃ v H', Inv X pins σ H' s' ∧ RelV v u ∧ Q v H'
def TP (X : Cx) (pins : List (Addr × Obj)) (σ : St) (Q : Bool → Hp → Prop) (b : Bool) (s' : Shared) : Prop := ∃ H', Inv X pins σ H' s' ∧ Q b H'
def AP (X : Cx) (pins : List (Addr × Obj)) (σ : St) (Q : List V → Hp → Prop) (us : List Value) (s' : Shared) : Prop := ∃ vs H', Inv X pins σ H' s' ∧ Vals vs us ∧ Q vs H'
def SP (X : Cx) (pins : List (Addr × Obj)) (D : Ends) (f : Flow) (s' : Shared) : Prop :=
  match f with
  | .next => ∃ σ' H', Inv X pins σ' H' s' ∧ D.nx σ' H'
  | .brk => ∃ σ' H', Inv X pins σ' H' s' ∧ D.bk σ' H'
  | .cont => ∃ σ' H', Inv X pins σ' H' s' ∧ D.ct σ' H'
  | .ret u => ∃ v σ' H', Inv X pins σ' H' s' ∧ RelV v u ∧ D.rt v H'

def PE (X : Cx) (e : Expr) (t : TE) : Prop :=
  ∀ (pins : List (Addr × Obj)) (s : Shared) (σ : St) (H : Hp) (Q : VK), Inv X pins σ H s → t σ H Q → wpAny (model X.prog X.w) X.A (eval e X.env) (EP X pins σ Q) X.xe s
def PT (X : Cx) (e : Expr) (t : TT) : Prop :=
  ∀ (pins : List (Addr × Obj)) (s : Shared) (σ : St) (H : Hp) (Q : Bool → Hp → Prop), Inv X pins σ H s → t σ H Q → wpAny (model X.prog X.w) X.A (isTrue e X.env (eval e X.env)) (TP X pins σ Q) X.xe s
/-- a test whatever its 'whole' is (and, or) -/
def PW (X : Cx) (e : Expr) (t : TT) : Prop :=
  ∀ (whole : Sem Value) (pins : List (Addr × Obj)) (s : Shared) (σ : St) (H : Hp) (Q : Bool → Hp → Prop), Inv X pins σ H s → t σ H Q → wpAny (model X.prog X.w) X.A (isTrue e X.env whole) (TP X pins σ Q) X.xe s
theorem PW.pt {X : Cx} {e : Expr} {t : TT} (h : PW X e t) : PT X e t := h _
/-- an argument list (no star), from the left -/
def PA (X : Cx) (es : List Expr) (t : TA) : Prop :=
  ∀ (pos : Pos) (pins : List (Addr × Obj)) (s : Shared) (σ : St) (H : Hp) (Q : List V → Hp → Prop), Inv X pins σ H s → t σ H Q → wpAny (model X.prog X.w) X.A (spliced (backTo pos (starEach es X.env))) (AP X pins σ Q) X.xe s
def PS (X : Cx) (st : Stmt) (t : TS) : Prop :=
  ∀ (pins : List (Addr × Obj)) (s : Shared) (σ : St) (H : Hp) (D : Ends), Inv X pins σ H s → t D σ H → wpAny (model X.prog X.w) X.A (exec st X.env) (SP X pins D) X.xe s
def PSs (X : Cx) (st : List Stmt) (t : TS) : Prop :=
  ∀ (pins : List (Addr × Obj)) (s : Shared) (σ : St) (H : Hp) (D : Ends), Inv X pins σ H s → t D σ H → wpAny (model X.prog X.w) X.A (execs st X.env) (SP X pins D) X.xe s
/-- weaken the end -/
theorem thn {α : Type} {t : Sem α} {Q Q' : α → Shared → Prop} {M : Model} {A : Around} {E : Value → Shared → Prop} {s : Shared} (h : wpAny M A t Q E s) (hQ : ∀ a s, Q a s → Q' a s) : wpAny M A t Q' E s := wpAny_mono h hQ fun _ _ x => x
end L2

namespace L2
open PySem PySem.Spec PyProof.Rows
section
variable {X : Cx}

/-- two expressions in a row -/
theorem bin {a b : Expr} {ta tb : TE} (ha : PE X a ta) (hb : PE X b tb) {pins : List (Addr × Obj)} {s : Shared} {σ : St} {H : Hp} {R : V → V → Hp → Prop} (I : Inv X pins σ H s) (h : ta σ H fun x H1 => tb σ H1 fun y H2 => R x y H2)
    {α : Type} {Q : α → Shared → Prop} {f : Value → Value → Sem α}
    (hf : ∀ v u s2 x y H2, Inv X pins σ H2 s2 → RelV x v → RelV y u → R x y H2 → wpAny (model X.prog X.w) X.A (f v u) Q X.xe s2) :
    wpAny (model X.prog X.w) X.A (eval a X.env) (fun v s₁ => wpAny (model X.prog X.w) X.A (eval b X.env) (fun u s₂ => wpAny (model X.prog X.w) X.A (f v u) Q X.xe s₂) X.xe s₁) X.xe s := by
  refine thn (ha pins s σ H _ I h) fun v s1 ⟨x, H1, I1, r1, q1⟩ => ?_
  refine thn (hb pins s1 σ H1 _ I1 q1) fun u s2 ⟨y, H2, I2, r2, q2⟩ => ?_
  exact hf v u s2 x y H2 I2 r1 r2 q2

/-! ### names and constants -/
def tVar (i : Nat) : TE := fun σ H Q => ∃ v, σ[i]? = some (some v) ∧ Q v H
def tC (v : V) : TE := fun _ H Q => Q v H
theorem pe_var {i : Nat} {x : Str} {pos : Pos} (hN : X.N[i]? = some x) (hv : Vis X.env.scope x) (hd : (x == ("__debug__" : Str)) = false := by decide) (hcd : (x == ("__classdict__" : Str)) = false := by decide) : PE X (.Name x pos) (tVar i) := by
  intro pins s σ H Q I h
  obtain ⟨v, e, h⟩ := h
  obtain ⟨m, hn, hl⟩ := I.loc
  obtain ⟨u, r, l⟩ := hl i x v hN e hv
  have fin : EP X pins σ Q u s := ⟨v, H, I, r, h⟩
  rcases l with ⟨hk, hm⟩ | ⟨hk, c, hc, hcell⟩
  · exact wpAny_Name (wpAny_loadName_local I.ok.kind hk hn hm fin) hd
  · rcases hk with hk | hk
    · exact wpAny_Name (wpAny_loadName_cell I.ok.kind hk hc hcell fin) hd
    · exact wpAny_Name (wpAny_loadName_free I.ok.kind hk hc hcell fin hcd) hd
theorem pe_int {i j pos} : PE X (.Constant (.int i) j pos) (tC (.int i)) := fun _ _ _ H _ I h => wpAny_Constant_int ⟨.int i, H, I.tok _, ⟨_, rfl⟩, h⟩
theorem pe_bl {b j pos} : PE X (.Constant (.bool b) j pos) (tC (.bl b)) := fun _ _ _ H _ I h => Constant_bool ⟨.bl b, H, I, rfl, h⟩
theorem pe_non {j pos} : PE X (.Constant .none j pos) (tC .non) := fun _ _ _ H _ I h => Constant_none ⟨.non, H, I, rfl, h⟩
theorem pe_str {x j pos} : PE X (.Constant (.str x) j pos) (tC (.str x)) := fun _ _ _ H _ I h => Calls.Constant_str ⟨.str x, H, I.tok _, ⟨_, rfl⟩, h⟩

/-- a global name of the def -/
def Gl (X : Cx) (x : Str) : Prop := X.env.kindOf x = some .globalImplicit
theorem ld_glob {E : Value → Shared → Prop} {pins : List (Addr × Obj)} {s : Shared} {σ : St} {H : Hp} {x : Str} {u : Value} {pos : Pos} {Q : Value → Shared → Prop} (I : Inv X pins σ H s) (hg : Gl X x) (hm : X.mg x = some u) (h : Q u s)
    (hd : (x == ("__debug__" : Str)) = false := by decide) : wpAny (model X.prog X.w) X.A (eval (.Name x pos) X.env) Q E s :=
  Calls.Name_function_global I.ok.kind hg (Calls.loadGlobal_global (by rw [I.ok.glob]; exact I.mod.glob.keeps I.bk) hm h) hd
theorem ld_blt {E : Value → Shared → Prop} {pins : List (Addr × Obj)} {s : Shared} {σ : St} {H : Hp} {x : Str} {u : Value} {pos : Pos} {Q : Value → Shared → Prop} (I : Inv X pins σ H s) (hg : Gl X x) (hm : X.mg x = none) (hv : bootBuiltins x = some u) (h : Q u s)
    (hn : x ≠ "__name__" := by decide) (hd : (x == ("__debug__" : Str)) = false := by decide) : wpAny (model X.prog X.w) X.A (eval (.Name x pos) X.env) Q E s := by
  obtain ⟨mb, h1, h2⟩ := I.mod.blt
  exact Calls.Name_function_global I.ok.kind hg (Calls.loadGlobal_builtin (by rw [I.ok.glob]; exact I.mod.glob.keeps I.bk) hm (by rw [I.ok.blt]; exact h1.keeps I.bk) ((h2 x hn).trans hv) h) hd
/-- a module's constant, a class, a function, as a value -/
theorem pe_glob {x : Str} {v : V} {u : Value} {pos : Pos} (hg : Gl X x) (hm : X.mg x = some u) (r : RelV v u) (hd : (x == ("__debug__" : Str)) = false := by decide) : PE X (.Name x pos) (tC v) :=
  fun _ _ _ H _ I h => ld_glob I hg hm ⟨v, H, I, r, h⟩ hd
theorem pe_bltn {x : Str} {v : V} {u : Value} {pos : Pos} (hg : Gl X x) (hm : X.mg x = none) (hv : bootBuiltins x = some u) (r : RelV v u) (hn : x ≠ "__name__" := by decide) (hd : (x == ("__debug__" : Str)) = false := by decide) : PE X (.Name x pos) (tC v) :=
  fun _ _ _ H _ I h => ld_blt I hg hm hv ⟨v, H, I, r, h⟩ hn hd

/-! ### arithmetic -/
/-- two ints -/
def t2I (ta tb : TE) (k : Int → Int → Hp → Prop) : St → Hp → Prop := fun σ H => ta σ H fun x H1 => tb σ H1 fun y H2 => ∃ i j, x = .int i ∧ y = .int j ∧ k i j H2
def tAdd (ta tb : TE) : TE := fun σ H Q => t2I ta tb (fun i j H2 => Q (.int (i + j)) H2) σ H
def tSub (ta tb : TE) : TE := fun σ H Q => t2I ta tb (fun i j H2 => Q (.int (i - j)) H2) σ H
/-- the left factor below 2^64 -/
def tMul (ta tb : TE) : TE := fun σ H Q => t2I ta tb (fun i j H2 => (-(2 ^ 64) < i ∧ i < 2 ^ 64) ∧ Q (.int (i * j)) H2) σ H
variable {a b : Expr} {ta tb : TE} {pos : Pos}
theorem pe_add (ha : PE X a ta) (hb : PE X b tb) : PE X (.BinOp a .Add b pos) (tAdd ta tb) := by
  intro pins s σ H Q I h
  refine wpAny_BinOp (bin ha hb I h fun v u s2 x y H2 I2 rx ry q => ?_)
  obtain ⟨i, j, rfl, rfl, q⟩ := q
  obtain ⟨t, rfl⟩ := rx
  obtain ⟨t', rfl⟩ := ry
  exact add_int ⟨.int _, H2, I2.tok _, ⟨_, rfl⟩, q⟩
theorem pe_sub (ha : PE X a ta) (hb : PE X b tb) : PE X (.BinOp a .Sub b pos) (tSub ta tb) := by
  intro pins s σ H Q I h
  refine wpAny_BinOp (bin ha hb I h fun v u s2 x y H2 I2 rx ry q => ?_)
  obtain ⟨i, j, rfl, rfl, q⟩ := q
  obtain ⟨t, rfl⟩ := rx
  obtain ⟨t', rfl⟩ := ry
  exact sub_int ⟨.int _, H2, I2.tok _, ⟨_, rfl⟩, q⟩
theorem pe_mul (ha : PE X a ta) (hb : PE X b tb) : PE X (.BinOp a .Mult b pos) (tMul ta tb) := by
  intro pins s σ H Q I h
  refine wpAny_BinOp (bin ha hb I h fun v u s2 x y H2 I2 rx ry q => ?_)
  obtain ⟨i, j, rfl, rfl, ⟨q1, q2⟩, q⟩ := q
  obtain ⟨t, rfl⟩ := rx
  obtain ⟨t', rfl⟩ := ry
  exact mul_int ⟨.int _, H2, I2.tok _, ⟨_, rfl⟩, q⟩ (.of_left (intBits_le_64 q1 q2))

/-! ### comparisons -/
def PC (X : Cx) (op : CmpOp) (a b : Expr) (t : TE) : Prop :=
  ∀ (pins : List (Addr × Obj)) (s : Shared) (σ : St) (H : Hp) (Q : VK), Inv X pins σ H s → t σ H Q →
    wpAny (model X.prog X.w) X.A (eval a X.env) (fun v s₁ => wpAny (model X.prog X.w) X.A (eval b X.env) (fun u s₂ => wpAny (model X.prog X.w) X.A (compareOp op v u) (EP X pins σ Q) X.xe s₂) X.xe s₁) X.xe s
theorem nobehind (b : Expr) {op : CmpOp} (h : op ≠ .In) (h2 : op ≠ .NotIn) : behindInMarks op b = false := by
  have e1 : (op == CmpOp.In) = false := by cases op <;> first | rfl | exact absurd rfl h
  have e2 : (op == CmpOp.NotIn) = false := by cases op <;> first | rfl | exact absurd rfl h2
  cases b <;> simp [behindInMarks, e1, e2]
def tCmp (p : Int → Int → Bool) (ta tb : TE) : TE := fun σ H Q => t2I ta tb (fun i j H2 => Q (.bl (p i j)) H2) σ H
abbrev tLt : TE → TE → TE := tCmp fun i j => decide (i < j)
abbrev tLe : TE → TE → TE := tCmp fun i j => decide (i ≤ j)
abbrev tGt : TE → TE → TE := tCmp fun i j => decide (j < i)
abbrev tGe : TE → TE → TE := tCmp fun i j => decide (j ≤ i)
abbrev tEqI : TE → TE → TE := tCmp fun i j => decide (i = j)
abbrev tNeI : TE → TE → TE := tCmp fun i j => !decide (i = j)
/-- a comparison of two ints, by its rule -/
theorem pc_int {op : CmpOp} {p : Int → Int → Bool} (ha : PE X a ta) (hb : PE X b tb)
    (rule : ∀ (i j : Int) (t u : Tok) (Q : Value → Shared → Prop) (s : Shared), Q (.bool (p i j)) s → wpAny (model X.prog X.w) X.A (compareOp op (.int i t) (.int j u)) Q X.xe s) : PC X op a b (tCmp p ta tb) := by
  intro pins s σ H Q I h
  refine bin ha hb I h fun v u s2 x y H2 I2 rx ry q => ?_
  obtain ⟨i, j, rfl, rfl, q⟩ := q
  obtain ⟨t, rfl⟩ := rx
  obtain ⟨t', rfl⟩ := ry
  exact rule i j t t' _ s2 ⟨.bl _, H2, I2, rfl, q⟩
theorem pc_lt (ha : PE X a ta) (hb : PE X b tb) : PC X .Lt a b (tLt ta tb) := pc_int ha hb fun _ _ _ _ _ _ h => lt_int h
theorem pc_le (ha : PE X a ta) (hb : PE X b tb) : PC X .LtE a b (tLe ta tb) := pc_int ha hb fun _ _ _ _ _ _ h => le_int h
theorem pc_gt (ha : PE X a ta) (hb : PE X b tb) : PC X .Gt a b (tGt ta tb) := pc_int ha hb fun _ _ _ _ _ _ h => gt_int h
theorem pc_ge (ha : PE X a ta) (hb : PE X b tb) : PC X .GtE a b (tGe ta tb) := pc_int ha hb fun _ _ _ _ _ _ h => ge_int h
theorem pc_eqI (ha : PE X a ta) (hb : PE X b tb) : PC X .Eq a b (tEqI ta tb) := pc_int ha hb fun _ _ _ _ _ _ h => eq_int (by rw [Bool.beq_eq_decide_eq]; exact h)
theorem pc_neI (ha : PE X a ta) (hb : PE X b tb) : PC X .NotEq a b (tNeI ta tb) := pc_int ha hb fun _ _ _ _ _ _ h => ne_int (by rw [bne, Bool.beq_eq_decide_eq]; exact h)
/-- is None -/
def tIsN (ta : TE) : TE := fun σ H Q => ta σ H fun x H1 => Q (.bl (decide (x = .non))) H1
def tNotN (ta : TE) : TE := fun σ H Q => ta σ H fun x H1 => Q (.bl (!decide (x = .non))) H1
theorem RelV.none_iff {x : V} {v : Value} (r : RelV x v) : (v == Value.none) = decide (x = .non) := by
  cases x with
  | non => cases r; rfl
  | bl _ => cases r; rfl
  | int _ => obtain ⟨t, rfl⟩ := r; rfl
  | str _ => obtain ⟨t, rfl⟩ := r; rfl
  | byt _ => obtain ⟨t, rfl⟩ := r; rfl
  | flt _ => obtain ⟨t, rfl⟩ := r; rfl
  | ref _ => cases r; rfl
  | ty _ => cases r; rfl
theorem pc_isN {j pos'} (ha : PE X a ta) : PC X .Is a (.Constant .none j pos') (tIsN ta) := by
  intro pins s σ H Q I h
  refine thn (ha pins s σ H _ I h) fun v s1 ⟨x, H1, I1, r1, q1⟩ => ?_
  exact Constant_none (is_none_gen ⟨.bl _, H1, I1, by rw [r1.none_iff]; rfl, q1⟩)
theorem pc_notN {j pos'} (ha : PE X a ta) : PC X .IsNot a (.Constant .none j pos') (tNotN ta) := by
  intro pins s σ H Q I h
  refine thn (ha pins s σ H _ I h) fun v s1 ⟨x, H1, I1, r1, q1⟩ => ?_
  exact Constant_none (isnot_none_gen ⟨.bl _, H1, I1, by rw [r1.none_iff]; rfl, q1⟩)
/-- a comparison as a value, as a test -/
def tB (t : TE) : TT := fun σ H Q => t σ H fun x H1 => ∃ c, x = .bl c ∧ Q c H1
theorem pe_cmp {op : CmpOp} {t : TE} (h : PC X op a b t) (h1 : behindInMarks op b = false := by first | exact nobehind _ (by decide) (by decide) | rfl) : PE X (.Compare a [op] [b] pos) t := fun pins s σ H Q I hw => wpAny_Compare1 (h pins s σ H Q I hw) h1
theorem pt_cmp {op : CmpOp} {t : TE} (h : PC X op a b t) (h1 : behindInMarks op b = false := by first | exact nobehind _ (by decide) (by decide) | rfl) : PT X (.Compare a [op] [b] pos) (tB t) := by
  intro pins s σ H Q I hw
  refine wpAny_isTrue_Compare1 (thn (h pins s σ H _ I hw) fun v s1 h1 => thn h1 fun u s2 h2 => thn h2 fun c s3 ⟨x, H1, I1, r1, q1⟩ => ?_) h1
  obtain ⟨d, rfl, q⟩ := q1
  cases r1
  exact wpAny_truthy_bool ⟨H1, I1, q⟩
/-- an expression whose value is a bool, as a test -/
theorem pt_val {e : Expr} {t : TE} (h : PE X e t) (he : ∀ whole, isTrue e X.env whole = (do let v ← whole; standAt e.pos; holding [v] (truthy v)) := by intro _; rfl) : PT X e (tB t) := by
  intro pins s σ H Q I hw
  refine isTrue_plain (thn (h pins s σ H _ I hw) fun v s1 ⟨x, H1, I1, r1, q1⟩ => ?_) (he _)
  obtain ⟨d, rfl, q⟩ := q1
  cases r1
  exact wpAny_truthy_bool ⟨H1, I1, q⟩

/-! ### and, or, not -/
variable {tA tB' : TT} {rest : List Expr}
def tAnd (t u : TT) : TT := fun σ H Q => t σ H fun c H1 => if c = true then u σ H1 Q else Q false H1
def tOr (t u : TT) : TT := fun σ H Q => t σ H fun c H1 => if c = true then Q true H1 else u σ H1 Q
def tNot (t : TT) : TT := fun σ H Q => t σ H fun c H1 => Q (!c) H1
theorem pw_and1 (ha : PT X a tA) : PW X (.BoolOp .And [a] pos) tA := by
  intro wh pins s σ H Q I h
  refine isTrue_and (thn (ha pins s σ H Q I h) fun c s1 e => ?_)
  cases c with
  | true => exact isTrue_and_nil e
  | false => exact e
theorem pw_or1 (ha : PT X a tA) : PW X (.BoolOp .Or [a] pos) tA := by
  intro wh pins s σ H Q I h
  refine isTrue_or (thn (ha pins s σ H Q I h) fun c s1 e => ?_)
  cases c with
  | false => exact isTrue_or_nil e
  | true => exact e
theorem pw_and (ha : PT X a tA) (hb : PW X (.BoolOp .And (b :: rest) pos) tB') : PW X (.BoolOp .And (a :: b :: rest) pos) (tAnd tA tB') := by
  intro wh pins s σ H Q I h
  refine isTrue_and (thn (ha pins s σ H _ I h) fun c s1 ⟨H1, I1, q1⟩ => ?_)
  cases c with
  | true => exact hb wh pins s1 σ H1 Q I1 q1
  | false => exact ⟨H1, I1, q1⟩
theorem pw_or (ha : PT X a tA) (hb : PW X (.BoolOp .Or (b :: rest) pos) tB') : PW X (.BoolOp .Or (a :: b :: rest) pos) (tOr tA tB') := by
  intro wh pins s σ H Q I h
  refine isTrue_or (thn (ha pins s σ H _ I h) fun c s1 ⟨H1, I1, q1⟩ => ?_)
  cases c with
  | true => exact ⟨H1, I1, q1⟩
  | false => exact hb wh pins s1 σ H1 Q I1 q1
theorem pt_not (ha : PT X a tA) : PT X (.UnaryOp .Not a pos) (tNot tA) := by
  intro pins s σ H Q I h
  exact isTrue_not (ha pins s σ H (fun c H1 => Q (!c) H1) I h)
/-- .. as values (bools) -/
def tAndV (ta tb : TE) : TE := fun σ H Q => ta σ H fun x H1 => ∃ c, x = .bl c ∧ if c = true then tb σ H1 Q else Q (.bl false) H1
def tOrV (ta tb : TE) : TE := fun σ H Q => ta σ H fun x H1 => ∃ c, x = .bl c ∧ if c = true then Q (.bl true) H1 else tb σ H1 Q
def tNotV (ta : TE) : TE := fun σ H Q => ta σ H fun x H1 => ∃ c, x = .bl c ∧ Q (.bl (!c)) H1
theorem pe_one {op} {t : TE} (h : PE X a t) : PE X (.BoolOp op [a] pos) t := fun pins s σ H Q I hw => BoolOp_one (h pins s σ H Q I hw)
theorem pe_and (ha : PE X a ta) (hb : PE X (.BoolOp .And (b :: rest) pos) tb) : PE X (.BoolOp .And (a :: b :: rest) pos) (tAndV ta tb) := by
  intro pins s σ H Q I h
  refine BoolOp_and (thn (ha pins s σ H _ I h) fun v s1 ⟨x, H1, I1, r1, q1⟩ => ?_)
  obtain ⟨c, rfl, q1⟩ := q1
  cases r1
  refine wpAny_truthy_bool ?_
  cases c with
  | true => exact hb pins s1 σ H1 Q I1 q1
  | false => exact ⟨.bl false, H1, I1, rfl, q1⟩
theorem pe_or (ha : PE X a ta) (hb : PE X (.BoolOp .Or (b :: rest) pos) tb) : PE X (.BoolOp .Or (a :: b :: rest) pos) (tOrV ta tb) := by
  intro pins s σ H Q I h
  refine BoolOp_or (thn (ha pins s σ H _ I h) fun v s1 ⟨x, H1, I1, r1, q1⟩ => ?_)
  obtain ⟨c, rfl, q1⟩ := q1
  cases r1
  refine wpAny_truthy_bool ?_
  cases c with
  | false => exact hb pins s1 σ H1 Q I1 q1
  | true => exact ⟨.bl true, H1, I1, rfl, q1⟩
theorem pe_not (ha : PE X a ta) : PE X (.UnaryOp .Not a pos) (tNotV ta) := by
  intro pins s σ H Q I h
  refine UnaryOp_ (thn (ha pins s σ H _ I h) fun v s1 ⟨x, H1, I1, r1, q1⟩ => ?_)
  obtain ⟨c, rfl, q1⟩ := q1
  cases r1
  exact not_of (wpAny_truthy_bool ⟨.bl (!c), H1, I1, rfl, q1⟩)
/-- a if t else b -/
def tIf (t : TT) (ta tb : TE) : TE := fun σ H Q => t σ H fun c H1 => if c = true then ta σ H1 Q else tb σ H1 Q
theorem pe_ifExp {c : Expr} (hc : PT X c tA) (ha : PE X a ta) (hb : PE X b tb) : PE X (.IfExp c a b pos) (tIf tA ta tb) := by
  intro pins s σ H Q I h
  refine wpAny_IfExp (thn (hc pins s σ H _ I h) fun d s1 ⟨H1, I1, q1⟩ => ?_)
  cases d with
  | true => exact ha pins s1 σ H1 Q I1 q1
  | false => exact hb pins s1 σ H1 Q I1 q1
end
end L2

namespace L2
open PySem PySem.Spec PyProof.Rows

/-! ### a list, a tuple that is read: tracked, frozen, or an object of the module -/
def SqL (K : PySem.W.Frag) (H : Hp) (a : Addr) (xs : List V) : Prop :=
  Rd H a (.lst xs) ∨
    ∃ (o : Obj) (its : Array Value) (n : Nat), K.lookup a = some o ∧ o.cls = .type "list" ∧ o.dict = none ∧ o.data = .seq its n ∧ its.size ≤ sizeLine ∧ Vals xs its.toList
def SqT (K : PySem.W.Frag) (H : Hp) (a : Addr) (xs : List V) : Prop :=
  Rd H a (.tup xs) ∨
    ∃ (o : Obj) (its : Array Value) (n : Nat), K.lookup a = some o ∧ o.cls = .type "tuple" ∧ o.data = .seq its n ∧ its.size ≤ sizeLine ∧ Vals xs its.toList
def absV : Value → Option V
  | .none => some .non
  | .bool b => some (.bl b)
  | .int i _ => some (.int i)
  | .str x _ => some (.str x)
  | .bytes b _ => some (.byt b)
  | .float b _ => some (.flt b)
  | .ref a => some (.ref a)
  | .type n => some (.ty n)
  | _ => none
theorem RelV.abs {x : V} {u : Value} (r : RelV x u) : absV u = some x := by
  cases x with
  | non => cases r; rfl
  | bl _ => cases r; rfl
  | int _ => obtain ⟨t, rfl⟩ := r; rfl
  | str _ => obtain ⟨t, rfl⟩ := r; rfl
  | byt _ => obtain ⟨t, rfl⟩ := r; rfl
  | flt _ => obtain ⟨t, rfl⟩ := r; rfl
  | ref _ => cases r; rfl
  | ty _ => cases r; rfl
theorem RelV.inj {x y : V} {u : Value} (r : RelV x u) (q : RelV y u) : x = y := Option.some.inj (r.abs.symm.trans q.abs)
theorem Vals.inj : ∀ {xs ys : List V} {us : List Value}, Vals xs us → Vals ys us → xs = ys
  | _, _, _, .nil, .nil => rfl
  | _, _, _, .cons r t, .cons r' t' => by rw [r.inj r', Vals.inj t t']
section
variable {X : Cx} {pins : List (Addr × Obj)} {σ : St} {H : Hp} {s : Shared} {a : Addr} {xs ys : List V}
theorem SqL.of {K : PySem.W.Frag} (h : H a = some (.lst xs)) : SqL K H a xs := .inl (.inl h)
theorem SqT.of {K : PySem.W.Frag} (h : H a = some (.tup xs)) : SqT K H a xs := .inl (.inl h)
theorem Inv.list (I : Inv X pins σ H s) (h : SqL X.K H a xs) : ∃ its : List Value, Vals xs its ∧ PlainL s.heap a its.toArray ∧ xs.length ≤ sizeLine := by
  rcases h with h | ⟨o, its, n, hk, hc, hd, hs, hz, r⟩
  · obtain ⟨z, its, n, r, e⟩ := h.ok I.hok
    exact ⟨its, r, ⟨_, n, e, rfl, rfl, rfl⟩, z⟩
  · refine ⟨its.toList, r, ⟨o, n, I.kIn a o hk, hc, hd, by simpa using hs⟩, ?_⟩
    have e := r.length
    simp only [Array.length_toList] at e
    omega
theorem Inv.tuple (I : Inv X pins σ H s) (h : SqT X.K H a xs) : ∃ its : List Value, Vals xs its ∧ IsTup s.heap a its.toArray ∧ xs.length ≤ sizeLine := by
  rcases h with h | ⟨o, its, n, hk, hc, hs, hz, r⟩
  · obtain ⟨z, its, r, p⟩ := h.ok I.hok
    exact ⟨its, r, p, z⟩
  · refine ⟨its.toList, r, ⟨o, I.kIn a o hk, hc, n, by simpa using hs⟩, ?_⟩
    have e := r.length
    simp only [Array.length_toList] at e
    omega
theorem Inv.list_inj (I : Inv X pins σ H s) (h : SqL X.K H a xs) (h' : SqL X.K H a ys) : xs = ys := by
  obtain ⟨its, r, ⟨o, n, e, _, _, d⟩, _⟩ := I.list h
  obtain ⟨its', r', ⟨o', n', e', _, _, d'⟩, _⟩ := I.list h'
  rw [e] at e'; cases e'
  rw [d] at d'
  injection d' with d1 _
  have : its = its' := by simpa using congrArg Array.toList d1
  subst this
  exact r.inj r'
theorem Inv.tuple_inj (I : Inv X pins σ H s) (h : SqT X.K H a xs) (h' : SqT X.K H a ys) : xs = ys := by
  obtain ⟨its, r, ⟨o, e, _, n, d⟩, _⟩ := I.tuple h
  obtain ⟨its', r', ⟨o', e', _, n', d'⟩, _⟩ := I.tuple h'
  rw [e] at e'; cases e'
  rw [d] at d'
  injection d' with d1 _
  have : its = its' := by simpa using congrArg Array.toList d1
  subst this
  exact r.inj r'
end

/-! ### another wish about exceptions -/
abbrev Cx.wish (X : Cx) (E : Value → Shared → Prop) : Cx := { X with xe := E }
/-- no exception leaves -/
abbrev Cx.nox (X : Cx) : Cx := X.wish fun _ _ => False
theorem Cx.Ok.wish {X : Cx} (ok : X.Ok) (E : Value → Shared → Prop) : (X.wish E).Ok :=
  ⟨ok.mod, ok.kind, ok.glob, ok.blt, ok.above, ok.inj, ok.has, ok.cab, ok.hd, ok.frames, ok.stk, ok.exf, ok.bs, ok.bsz, ok.noex, ok.exfs, ok.funs, ok.frf⟩
theorem Cx.Ok.unwish {X : Cx} {E : Value → Shared → Prop} (ok : (X.wish E).Ok) : X.Ok :=
  ⟨ok.mod, ok.kind, ok.glob, ok.blt, ok.above, ok.inj, ok.has, ok.cab, ok.hd, ok.frames, ok.stk, ok.exf, ok.bs, ok.bsz, ok.noex, ok.exfs, ok.funs, ok.frf⟩
section
variable {X : Cx} {pins : List (Addr × Obj)} {σ : St} {H : Hp} {s : Shared} {E : Value → Shared → Prop}
theorem Inv.wish (I : Inv X pins σ H s) (E : Value → Shared → Prop) : Inv (X.wish E) pins σ H s := ⟨I.ok.wish E, I.os, I.bare, I.base, I.loc, I.cell, I.free, I.freeC, I.pin, I.hok, I.len⟩
theorem Inv.unwish (I : Inv (X.wish E) pins σ H s) : Inv X pins σ H s := ⟨I.ok.unwish, I.os, I.bare, I.base, I.loc, I.cell, I.free, I.freeC, I.pin, I.hok, I.len⟩
theorem SP.unwish {D : Ends} {f : Flow} {s' : Shared} (h : SP (X.wish E) pins D f s') : SP X pins D f s' := by
  cases f with
  | next => obtain ⟨σ', H', I, q⟩ := h; exact ⟨σ', H', I.unwish, q⟩
  | brk => obtain ⟨σ', H', I, q⟩ := h; exact ⟨σ', H', I.unwish, q⟩
  | cont => obtain ⟨σ', H', I, q⟩ := h; exact ⟨σ', H', I.unwish, q⟩
  | ret u => obtain ⟨v, σ', H', I, r, q⟩ := h; exact ⟨v, σ', H', I.unwish, r, q⟩
theorem PE.nox {e : Expr} {t : TE} (h : PE X.nox e t) : PE X e t := fun pins s σ H Q I hw =>
  wpAny_mono (h pins s σ H Q (I.wish _) hw) (fun _ _ ⟨v, H', I', r, q⟩ => ⟨v, H', I'.unwish, r, q⟩) fun _ _ z => False.elim z
theorem PT.nox {e : Expr} {t : TT} (h : PT X.nox e t) : PT X e t := fun pins s σ H Q I hw =>
  wpAny_mono (h pins s σ H Q (I.wish _) hw) (fun _ _ ⟨H', I', q⟩ => ⟨H', I'.unwish, q⟩) fun _ _ z => False.elim z
theorem PSs.nox {st : List Stmt} {t : TS} (h : PSs X.nox st t) : PSs X st t := fun pins s σ H D I hw =>
  wpAny_mono (h pins s σ H D (I.wish _) hw) (fun _ _ q => q.unwish) fun _ _ z => False.elim z
end

/-! ### blocks and small statements -/
section
variable {X : Cx} {st : Stmt} {rest : List Stmt} {t u : TS} {e : Expr} {te : TE} {pos : Pos}
def tNext : TS := fun D σ H => D.nx σ H
def tSeq (t u : TS) : TS := fun D σ H => t { D with nx := u D } σ H
theorem pss_nil : PSs X [] tNext := fun _ _ σ H _ I h => wpAny_execs_nil ⟨σ, H, I, h⟩
theorem pss_cons (h1 : PS X st t) (h2 : PSs X rest u) : PSs X (st :: rest) (tSeq t u) := by
  intro pins s σ H D I h
  refine wpAny_execs_cons (thn (h1 pins s σ H { D with nx := u D } I h) fun f s1 q => ?_)
  cases f with
  | next =>
    obtain ⟨σ', H', I', q⟩ := q
    exact h2 pins s1 σ' H' D I' q
  | ret v => exact q
  | brk => exact q
  | cont => exact q
theorem pss_one (h1 : PS X st t) : PSs X [st] t := by
  intro pins s σ H D I h
  refine wpAny_execs_cons (thn (h1 pins s σ H D I h) fun f s1 q => ?_)
  cases f with
  | next => exact wpAny_execs_nil q
  | ret v => exact q
  | brk => exact q
  | cont => exact q
def tBreak : TS := fun D σ H => D.bk σ H
def tCont : TS := fun D σ H => D.ct σ H
theorem ps_pass : PS X (.Pass pos) tNext := fun _ _ σ H _ I h => wpAny_Pass ⟨σ, H, I, h⟩
theorem ps_break : PS X (.Break pos) tBreak := fun _ _ σ H _ I h => wpAny_Break ⟨σ, H, I, h⟩
theorem ps_continue : PS X (.Continue pos) tCont := fun _ _ σ H _ I h => wpAny_Continue ⟨σ, H, I, h⟩
/-- in a def's body nothing is shown -/
theorem Inv.quiet {pins : List (Addr × Obj)} {σ : St} {H : Hp} {s : Shared} (I : Inv X pins σ H s) : interactive X.env = false := by simp [interactive, I.ok.kind]
/-- a docstring -/
theorem ps_doc {x j pos pos'} : PS X (.Expr (.Constant (.str x) j pos) pos') tNext := fun _ s σ H _ I h => wpAny_Expr (Calls.Constant_str (show SP X _ _ .next { s with toks := s.toks + 1 } from ⟨σ, H, I.tok _, h⟩)) I.quiet
/-- an expression whose value is dropped -/
def tDrop (te : TE) : TS := fun D σ H => te σ H fun _ H1 => D.nx σ H1
theorem ps_expr (he : PE X e te) (hs : swapsWith e none pos.line X.env = pure false := by rfl) : PS X (.Expr e pos) (tDrop te) := by
  intro pins s σ H D I h
  exact wpAny_Expr_any (thn (he pins s σ H _ I h) fun v s1 ⟨x, H1, I1, r1, q1⟩ => ⟨σ, H1, I1, q1⟩) I.quiet hs
def tRet (te : TE) : TS := fun D σ H => te σ H D.rt
theorem ps_ret (he : PE X e te) : PS X (.Return (some e) pos) (tRet te) := by
  intro pins s σ H D I h
  exact wpAny_Return_some (thn (he pins s σ H _ I h) fun v s1 ⟨x, H1, I1, r1, q1⟩ => ⟨x, σ, H1, I1, r1, q1⟩)
def tRetN : TS := fun D _ H => D.rt .non H
theorem ps_retN : PS X (.Return none pos) tRetN := fun _ _ σ H _ I h => wpAny_Return_none ⟨.non, σ, H, I, rfl, h⟩
def tIfS (c : TT) (t u : TS) : TS := fun D σ H => c σ H fun b H1 => if b = true then t D σ H1 else u D σ H1
theorem ps_if {c : Expr} {a b : List Stmt} {tc : TT} (hc : PT X c tc) (ha : PSs X a t) (hb : PSs X b u) : PS X (.If c a b pos) (tIfS tc t u) := by
  intro pins s σ H D I h
  refine wpAny_If (thn (hc pins s σ H _ I h) fun d s1 ⟨H1, I1, q1⟩ => ?_)
  cases d with
  | true => exact ha pins s1 σ H1 D I1 q1
  | false => exact hb pins s1 σ H1 D I1 q1
/-- code that the proof never comes to -/
def tNever : TS := fun _ _ _ => False
theorem ps_never : PS X st tNever := fun _ _ _ _ _ _ h => h.elim
theorem pss_never {sts : List Stmt} : PSs X sts tNever := fun _ _ _ _ _ _ h => h.elim
end

/-! ### targets -/
abbrev TG := V → St → Hp → (St → Hp → Prop) → Prop
abbrev TGs := List V → St → Hp → (St → Hp → Prop) → Prop
def PG (X : Cx) (target : Expr) (t : TG) : Prop :=
  ∀ (pins : List (Addr × Obj)) (s : Shared) (σ : St) (H : Hp) (v : V) (u : Value) (Q : St → Hp → Prop), Inv X pins σ H s → RelV v u → t v σ H Q →
    wpAny (model X.prog X.w) X.A (assign target X.env u) (fun _ s' => ∃ σ' H', Inv X pins σ' H' s' ∧ Q σ' H') X.xe s
/-- several targets, one after another -/
def PGs (X : Cx) (ts : List Expr) (t : TGs) : Prop :=
  ∀ (pins : List (Addr × Obj)) (s : Shared) (σ : St) (H : Hp) (vs : List V) (us : List Value) (Q : St → Hp → Prop), Inv X pins σ H s → Vals vs us → t vs σ H Q →
    wpAny (model X.prog X.w) X.A (assignInOrder ((assignEach ts X.env).map (·.2)) us) (fun _ s' => ∃ σ' H', Inv X pins σ' H' s' ∧ Q σ' H') X.xe s
/-- o[i] = v, by values -/
abbrev TSet := V → V → V → Hp → (Hp → Prop) → Prop
def PSet (X : Cx) (t : TSet) : Prop :=
  ∀ (pins : List (Addr × Obj)) (s : Shared) (σ : St) (H : Hp) (o i v : V) (ov iv u : Value) (Q : Hp → Prop), Inv X pins σ H s → RelV o ov → RelV i iv → RelV v u → t o i v H Q →
    wpAny (model X.prog X.w) X.A (setItem ov iv u) (fun _ s' => ∃ H', Inv X pins σ H' s' ∧ Q H') X.xe s
/-- a op= b, by values -/
abbrev TIp := V → V → Hp → VK → Prop
def PIp (X : Cx) (op : Operator) (t : TIp) : Prop :=
  ∀ (pins : List (Addr × Obj)) (s : Shared) (σ : St) (H : Hp) (x y : V) (v u : Value) (Q : VK), Inv X pins σ H s → RelV x v → RelV y u → t x y H Q →
    wpAny (model X.prog X.w) X.A (inplaceOp op v u) (EP X pins σ Q) X.xe s
section
variable {X : Cx} {pos : Pos}
def gName (i : Nat) : TG := fun v σ H Q => Q (σ.set i (some v)) H
theorem pg_name {i : Nat} {x : Str} (hN : X.N.Nodup) (hi : X.N[i]? = some x) (hx : Loc X.env.scope x) (hf : X.fn x = true ∨ X.env.scope.names.lookup x = some .local := by first | exact .inl rfl | exact .inr rfl | assumption) : PG X (.Name x pos) (gName i) := by
  intro pins s σ H v u Q I r h
  exact wpAny_assign_Name (store_ok I hN hi hx r (fun s' I' => ⟨_, H, I', h⟩) hf)
def gNil : TGs := fun vs σ H Q => vs = [] ∧ Q σ H
def gCons (t : TG) (u : TGs) : TGs := fun vs σ H Q => ∃ v r, vs = v :: r ∧ t v σ H fun σ' H' => u r σ' H' Q
theorem pgs_nil : PGs X [] gNil := by
  intro pins s σ H vs us Q I r h
  obtain ⟨e, h⟩ := h
  subst e
  cases r
  exact assignInOrder_nil ⟨σ, H, I, h⟩
theorem pgs_cons {e : Expr} {es : List Expr} {t : TG} {u : TGs} (h1 : PG X e t) (h2 : PGs X es u)
    (hs : (assignEach (e :: es) X.env).map (·.2) = assign e X.env :: (assignEach es X.env).map (·.2) := by rfl) : PGs X (e :: es) (gCons t u) := by
  intro pins s σ H vs us Q I r h
  obtain ⟨v, vr, e1, h⟩ := h
  subst e1
  cases r with
  | cons r rr =>
    rw [hs]
    refine assignInOrder_cons (thn (h1 pins s σ H _ _ _ I r h) fun _ s1 ⟨σ1, H1, I1, q1⟩ => ?_)
    exact h2 pins s1 σ1 H1 _ _ Q I1 rr q1
/-- (a, b, ..) = a tuple of that length -/
def gTup (K : PySem.W.Frag) (n : Nat) (t : TGs) : TG := fun v σ H Q => ∃ a xs, v = .ref a ∧ SqT K H a xs ∧ xs.length = n ∧ t xs σ H Q
theorem pg_tup {es : List Expr} {k : Nat} {t : TGs} {n : Nat} (hc : X.calm = true) (h : PGs X es t)
    (hn : (assignEach es X.env).length = n := by rfl) (hst : (assignEach es X.env).findIdx? (·.1) = none := by rfl) : PG X (.Tuple es k pos) (gTup X.K n t) := by
  intro pins s σ H v u Q I r hw
  obtain ⟨a, xs, e1, hq, hl, hw⟩ := hw
  subst e1
  cases r
  obtain ⟨its, rv, ht, hz⟩ := I.tuple hq
  refine assign_Tuple_tuple (I.ok.hd hc) ht (by simp [hn, ← hl, rv.length]) hst fun h' hx => ?_
  have I1 : Inv X pins σ H { s with heap := h' } := I.kept (t' := s.toks) fun b o e => hx b o (Nat.ne_of_lt (Heap.lt_size e)) e
  exact h pins _ σ H xs _ Q I1 (by simpa using rv) hw
/-- o[i] = .. -/
def gSub (to ti : TE) (t : TSet) : TG := fun v σ H Q => to σ H fun o H1 => ti σ H1 fun i H2 => t o i v H2 fun H3 => Q σ H3
theorem pg_sub {o i : Expr} {to ti : TE} {t : TSet} (ho : PE X o to) (hi : PE X i ti) (hs : PSet X t)
    (ha : ∀ v, assign (.Subscript o i pos) X.env v = (do
      let ov ← holding [v] (eval o X.env)
      let iv ← holding [v, ov] (eval i X.env)
      standAt pos
      holding [v, ov, iv] (setItem ov iv v)
      release [v, ov, iv] []) := by intro _; rfl) : PG X (.Subscript o i pos) (gSub to ti t) := by
  intro pins s σ H v u Q I r h
  rw [ha]
  refine wpAny_bind (wpAny_holding (thn (ho pins s σ H _ I h) fun ov s1 ⟨x, H1, I1, r1, q1⟩ => ?_))
  refine wpAny_bind (wpAny_holding (thn (hi pins s1 σ H1 _ I1 q1) fun iv s2 ⟨y, H2, I2, r2, q2⟩ => ?_))
  refine wpAny_bind (wpAny_standAt (wpAny_bind (wpAny_holding (thn (hs pins s2 σ H2 x y v ov iv u _ I2 r1 r2 r q2) fun _ s3 ⟨H3, I3, q3⟩ => ?_))))
  exact wpAny_release ⟨σ, H3, I3, q3⟩
/-- target = value -/
def tAsg (te : TE) (g : TG) : TS := fun D σ H => te σ H fun x H1 => g x σ H1 D.nx
theorem ps_asg {tg e : Expr} {te : TE} {g : TG} (he : PE X e te) (hg : PG X tg g) (hs : swapsWithSole [tg] e pos.line X.env = pure false := by rfl) (hw : swappedStores [tg] e X.env = pure none := by rfl)
    (h1 : (assignEach [tg] X.env).map (·.2) = [assign tg X.env] := by rfl) : PS X (.Assign [tg] e pos) (tAsg te g) := by
  intro pins s σ H D I h
  refine wpAny_Assign_stores (thn (he pins s σ H _ I h) fun v s1 ⟨x, H1, I1, r1, q1⟩ => ?_) hs hw
  rw [h1]
  exact thn (hg pins s1 σ H1 x v _ I1 r1 q1) fun _ s2 q => q
/-- name = value -/
theorem ps_set {i : Nat} {x : Str} {e : Expr} {te : TE} {pos' : Pos} (hN : X.N.Nodup) (hi : X.N[i]? = some x) (hx : Loc X.env.scope x) (he : PE X e te) (hs : swapsWith e (some (.Name x pos')) pos.line X.env = pure false := by rfl) (hf : X.fn x = true ∨ X.env.scope.names.lookup x = some .local := by first | exact .inl rfl | exact .inr rfl | assumption) :
    PS X (.Assign [.Name x pos'] e pos) (tAsg te (gName i)) := by
  intro pins s σ H D I h
  refine wpAny_Assign_Name (thn (he pins s σ H _ I h) fun v s1 ⟨y, H1, I1, r1, q1⟩ => ?_) hs
  exact store_ok I1 hN hi hx r1 (fun s2 I2 => ⟨_, H1, I2, q1⟩) hf
/-- a, b = x, y with plain local names: stored from the right; the pair itself is not tracked (the opening rows as in PyProof/Rows/TupAssign.lean:23) -/
def tPar (i j : Nat) (ta : TA) : TS := fun D σ H => ta σ H fun vs H1 => ∃ v w, vs = [v, w] ∧ D.nx ((σ.set i (some v)).set j (some w)) H1
theorem ps_par {i j : Nat} {x y : Str} {a b : Expr} {ta : TA} {px py pt : Pos} {kt k2 pt2} (hc : X.calm = true) (hN : X.N.Nodup) (hi : X.N[i]? = some x) (hj : X.N[j]? = some y) (hij : i ≠ j)
    (hx : X.env.scope.names.lookup x = some .local) (hy : X.env.scope.names.lookup y = some .local) (ha : PA X [a, b] ta)
    (hw : swappedStores [.Tuple [.Name x px, .Name y py] kt pt] (.Tuple [a, b] k2 pt2) X.env = pure (some [x, y]))
    (hs : swapsWithSole [.Tuple [.Name x px, .Name y py] kt pt] (.Tuple [a, b] k2 pt2) pos.line X.env = pure false := by rfl) :
    PS X (.Assign [.Tuple [.Name x px, .Name y py] kt pt] (.Tuple [a, b] k2 pt2) pos) (tPar i j ta) := by
  intro pins s σ H D I h
  rw [exec_Assign_arm]
  refine wpAny_bind (wpAny_standAt ?_)
  rw [hs]
  refine wpAny_bind (wpAny_pure ?_)
  rw [if_neg (by decide)]
  refine wpAny_bind (Tuple_ (thn (ha _ pins s σ H _ I h) fun us s1 ⟨vs, H1, I1, r1, q1⟩ => ?_))
  obtain ⟨v, w, e1, q1⟩ := q1
  subst e1
  obtain ⟨u1, u2, rfl, rv, rw'⟩ : ∃ u1 u2, us = [u1, u2] ∧ RelV v u1 ∧ RelV w u2 := by
    cases r1 with
    | cons p q =>
      cases q with
      | cons p' q' =>
        cases q'
        exact ⟨_, _, rfl, p, p'⟩
  refine wpAny_newObj_type ?_ (by show 2 ≤ sizeLine; decide)
  have I2 : Inv X pins σ H1 { s1 with heap := s1.heap.push { cls := .type "tuple", data := .seq [u1, u2].toArray } } := I1.kept (t' := s1.toks) fun b o e => Heap.get?_push_of_some _ e
  rw [hw]
  refine wpAny_bind (wpAny_pure ?_)
  show wpAny (model X.prog X.w) X.A (do rule "assign.swapped-stores"; let items ← unpackItems (.ref s1.heap.objs.size) 2 none; assignInOrder [fun v => bindName X.env y v, fun v => bindName X.env x v] items.reverse; pure Flow.next) _ _ _
  refine wpAny_bind (wpAny_rule (wpAny_bind (unpackItems_tuple (items := #[u1, u2]) (I.ok.hd hc) (IsTup.new s1.heap _) fun h' hx' => ?_)))
  have I3 := I2.kept (h' := h') (t' := s1.toks) fun b o e => hx' b o (Nat.ne_of_lt (Heap.lt_size e)) e
  show wpAny _ _ (assignInOrder [fun v => bindName X.env y v, fun v => bindName X.env x v] [u2, u1] >>= fun _ => pure Flow.next) _ _ _
  refine wpAny_bind (assignInOrder_cons (wpAny_bindName (store_ok I3 hN hj (.inl hy) rw' (fun s2 I4 => ?_) (.inr hy))))
  refine assignInOrder_cons (wpAny_bindName (store_ok I4 hN hi (.inl hx) rv (fun s3 I5 => assignInOrder_nil (wpAny_pure ?_)) (.inr hx)))
  rw [List.set_comm _ _ (Ne.symm hij)] at I5
  exact ⟨_, H1, I5, q1⟩
/-- name op= e -/
def tAug (i : Nat) (te : TE) (ti : TIp) : TS := fun D σ H => ∃ x, σ[i]? = some (some x) ∧ te σ H fun y H1 => ti x y H1 fun z H2 => D.nx (σ.set i (some z)) H2
theorem ps_aug {i : Nat} {x : Str} {e : Expr} {te : TE} {op : Operator} {ti : TIp} {pos' : Pos} (hN : X.N.Nodup) (hi : X.N[i]? = some x) (hx : Loc X.env.scope x) (he : PE X e te) (ho : PIp X op ti) (hf : X.fn x = true ∨ X.env.scope.names.lookup x = some .local := by first | exact .inl rfl | exact .inr rfl | assumption) :
    PS X (.AugAssign (.Name x pos') op e pos) (tAug i te ti) := by
  intro pins s σ H D I h
  obtain ⟨v, e1, h⟩ := h
  obtain ⟨m, hn, hl⟩ := I.loc
  have vis : Vis X.env.scope x := by rcases hx with k | k; exact .inl k; exact .inr (.inl k)
  obtain ⟨u, r, l⟩ := hl i x v hi e1 vis
  refine wpAny_AugAssign_Name ?_
  have go : wpAny (model X.prog X.w) X.A (eval e X.env) (fun w s₂ => wpAny (model X.prog X.w) X.A (inplaceOp op u w) (fun r s₃ => wpAny (model X.prog X.w) X.A (storeName X.env x r) (fun _ => SP X pins D .next) X.xe s₃) X.xe s₂) X.xe s := by
    refine thn (he pins s σ H _ I h) fun w s1 ⟨y, H1, I1, r1, q1⟩ => ?_
    refine thn (ho pins s1 σ H1 v y u w _ I1 r r1 q1) fun z s2 ⟨zv, H2, I2, r2, q2⟩ => ?_
    exact store_ok I2 hN hi hx r2 (fun s3 I3 => ⟨_, H2, I3, q2⟩) hf
  rcases l with ⟨hk, hm⟩ | ⟨hk, c, hc, hcell⟩
  · exact wpAny_loadName_local I.ok.kind hk hn hm go
  · rcases hk with hk | hk
    · exact wpAny_loadName_cell I.ok.kind hk hc hcell go
    · rcases hx with k | k
      · have : X.env.scope.names.lookup x = some .free := hk
        rw [k] at this; cases this
      · have : X.env.scope.names.lookup x = some .free := hk
        rw [k] at this; cases this
/-- o[i] op= e -/
def tAugS (to ti te : TE) (tget : V → V → Hp → VK → Prop) (tip : TIp) (tset : TSet) : TS := fun D σ H => to σ H fun o H1 => ti σ H1 fun i H2 => tget o i H2 fun x H3 => te σ H3 fun y H4 => tip x y H4 fun z H5 => tset o i z H5 fun H6 => D.nx σ H6
/-- o[i], by values -/
def PGet (X : Cx) (t : V → V → Hp → VK → Prop) : Prop :=
  ∀ (pins : List (Addr × Obj)) (s : Shared) (σ : St) (H : Hp) (o i : V) (ov iv : Value) (Q : VK), Inv X pins σ H s → RelV o ov → RelV i iv → t o i H Q →
    wpAny (model X.prog X.w) X.A (getItem ov iv) (EP X pins σ Q) X.xe s
theorem ps_augS {o i e : Expr} {to ti te : TE} {tget : V → V → Hp → VK → Prop} {tip : TIp} {tset : TSet} {op : Operator} {tpos : Pos} (ho : PE X o to) (hi : PE X i ti) (hg : PGet X tget) (he : PE X e te) (hp : PIp X op tip) (hs : PSet X tset)
    (ha : ∀ ov iv new, augStore i ov iv new = (do holding [new, ov, iv] (setItem ov iv new); release [new, ov, iv] []; pure .next) := by intros; rfl) : PS X (.AugAssign (.Subscript o i tpos) op e pos) (tAugS to ti te tget tip tset) := by
  intro pins s σ H D I h
  refine wpAny_AugAssign_SubscriptAny (thn (ho pins s σ H _ I h) fun ov s1 ⟨x1, H1, I1, r1, q1⟩ => ?_) ha
  refine thn (hi pins s1 σ H1 _ I1 q1) fun iv s2 ⟨x2, H2, I2, r2, q2⟩ => ?_
  refine thn (hg pins s2 σ H2 x1 x2 ov iv _ I2 r1 r2 q2) fun old s3 ⟨x3, H3, I3, r3, q3⟩ => ?_
  refine thn (he pins s3 σ H3 _ I3 q3) fun v s4 ⟨x4, H4, I4, r4, q4⟩ => ?_
  refine thn (hp pins s4 σ H4 x3 x4 old v _ I4 r3 r4 q4) fun new s5 ⟨x5, H5, I5, r5, q5⟩ => ?_
  exact thn (hs pins s5 σ H5 x1 x2 x5 ov iv new _ I5 r1 r2 r5 q5) fun _ s6 ⟨H6, I6, q6⟩ => ⟨σ, H6, I6, q6⟩
/-- ints -/
def ipI (f : Int → Int → Int) : TIp := fun x y H Q => ∃ i j, x = .int i ∧ y = .int j ∧ Q (.int (f i j)) H
theorem ip_add : PIp X .Add (ipI fun i j => i + j) := by
  intro pins s σ H x y v u Q I r1 r2 h
  obtain ⟨i, j, e1, e2, q⟩ := h
  subst e1; subst e2
  obtain ⟨t, rfl⟩ := r1
  obtain ⟨t', rfl⟩ := r2
  exact iadd_int ⟨.int _, H, I.tok _, ⟨_, rfl⟩, q⟩
theorem ip_sub : PIp X .Sub (ipI fun i j => i - j) := by
  intro pins s σ H x y v u Q I r1 r2 h
  obtain ⟨i, j, e1, e2, q⟩ := h
  subst e1; subst e2
  obtain ⟨t, rfl⟩ := r1
  obtain ⟨t', rfl⟩ := r2
  exact isub_int ⟨.int _, H, I.tok _, ⟨_, rfl⟩, q⟩
end

/-! ### while -/
section
variable {X : Cx} {pos : Pos}
/-- the invariant W with its measure -/
def tWhile (c : TT) (tb : TS) : TS := fun D σ H => ∃ W : Nat → St → Hp → Prop, (∃ m, W m σ H) ∧ ∀ m σ H, W m σ H →
  c σ H fun b H1 => if b = true then ∃ N : St → Hp → Prop, (∀ σ' H', N σ' H' → ∃ m', m' < m ∧ W m' σ' H') ∧ tb { D with nx := N, ct := N, bk := D.nx } σ H1 else D.nx σ H1
theorem ps_while {c : Expr} {body : List Stmt} {tc : TT} {tb : TS} (hp : PassesOwn (model X.prog X.w) X.A X.env X.xe) (hc : PT X c tc) (hb : PSs X body tb) : PS X (.While c body [] pos) (tWhile tc tb) := by
  intro pins s σ H D I h
  obtain ⟨W, ⟨m0, w0⟩, turn⟩ := h
  refine wpAny_While (codeAny_whileLoop (fun n s' => ∃ σ' H', Inv X pins σ' H' s' ∧ W n σ' H') ?_ m0 ⟨σ, H, I, w0⟩)
  rintro n s1 ⟨σ1, H1, I1, w1⟩
  refine wpAny_passesOwn hp (thn (hc pins s1 σ1 H1 _ I1 (turn n σ1 H1 w1)) fun b s2 ⟨H2, I2, q2⟩ => ?_)
  cases b with
  | true =>
    obtain ⟨N, hN, q2⟩ := q2
    rw [if_pos rfl]
    refine wpAny_passesOwn hp (thn (hb pins s2 σ1 H2 _ I2 q2) fun f s3 q3 => ?_)
    cases f with
    | next =>
      obtain ⟨σ3, H3, I3, n3⟩ := q3
      obtain ⟨m', hm, w3⟩ := hN σ3 H3 n3
      exact ⟨m', hm, σ3, H3, I3, w3⟩
    | cont =>
      obtain ⟨σ3, H3, I3, n3⟩ := q3
      obtain ⟨m', hm, w3⟩ := hN σ3 H3 n3
      exact ⟨m', hm, σ3, H3, I3, w3⟩
    | brk => exact q3
    | ret v => exact q3
  | false =>
    rw [if_neg Bool.false_ne_true]
    exact wpAny_execs_nil ⟨σ1, H2, I2, q2⟩
end

/-! ### what a loop or a comprehension walks -/
/-- at turn i: it yields x (the heap may grow), or it stops -/
structure It where
  go : Nat → Hp → Prop
  yld : Nat → Hp → V → Hp → Prop
  stop : Nat → Hp → Prop
/-- the iterator's own objects may turn: they are not the frame's, not pinned, younger than the entry (or a comprehension's own) -/
def FpOk (X : Cx) (pins : List (Addr × Obj)) (H : Hp) (b : Addr) : Prop :=
  H b = none ∧ b ≠ X.env.locals ∧ b ∉ X.fs ∧ (b ∈ X.ex ∨ X.s₀.heap.objs.size ≤ b) ∧ (∀ x c, X.env.cells.lookup x = some c → c ≠ b) ∧ ∀ p ∈ X.pn ++ pins, p.1 ≠ b
theorem Inv.fpOk {X : Cx} {pins : List (Addr × Obj)} {σ : St} {H H' : Hp} {s : Shared} {b : Addr} (I : Inv X pins σ H s) (hb : s.heap.objs.size ≤ b) (hn : H' b = none) : FpOk X pins H' b := by
  refine ⟨hn, Nat.ne_of_gt (Nat.lt_of_lt_of_le I.lt hb), I.nofs hb, .inr (Nat.le_trans I.sz hb), fun x c e z => ?_, fun p hp z => ?_⟩
  · obtain ⟨v, q⟩ := I.cell x c e
    exact absurd (Nat.lt_of_lt_of_le q.lt (by rw [z]; exact hb)) (Nat.lt_irrefl _)
  · exact absurd (Nat.lt_of_lt_of_le (Heap.lt_size (I.pin p hp).1) (by rw [z]; exact hb)) (Nat.lt_irrefl _)
structure Turn (P : Program) (w : World) (K : PySem.W.Frag) (tg : Expr) (J : It) (fp : List Addr) (it : Addr) (tn : Nat → Heap → Prop) : Prop where
  mem : it ∈ fp
  obj : ∀ i h, tn i h → ∀ b ∈ fp, ∃ o, h.get? b = some o ∧ ∀ v, o.data ≠ .cell v
  keep : ∀ i h h', tn i h → (∀ b ∈ fp, ∀ o, h.get? b = some o → h'.get? b = some o) → tn i h'
  item : ∀ (X : Cx), X.prog = P → X.w = w → X.K = K → X.calm = true → ∀ (i : Nat) (pins : List (Addr × Obj)) (s : Shared) (σ : St) (H : Hp) (E : Value → Shared → Prop), Inv X pins σ H s → (∀ b ∈ fp, FpOk X pins H b) → tn i s.heap → J.go i H →
    wpAny (model P w) X.A (pyNext (.ref it)) (fun r s1 => ∃ u, r = some u ∧
      wpAny (model P w) X.A (letOwnedTupleGo tg (.ref it) u) (fun _ s2 => ∃ x H', Inv X pins σ H' s2 ∧ RelV x u ∧ J.yld i H x H' ∧ tn (i + 1) s2.heap ∧ ∀ b ∈ fp, H' b = none) E s1) E s
  done : ∀ (X : Cx), X.prog = P → X.w = w → X.K = K → X.calm = true → ∀ (i : Nat) (pins : List (Addr × Obj)) (s : Shared) (σ : St) (H : Hp) (E : Value → Shared → Prop), Inv X pins σ H s → (∀ b ∈ fp, FpOk X pins H b) → tn i s.heap → J.stop i H →
    wpAny (model P w) X.A (pyNext (.ref it)) (fun r s1 => r = none ∧ Inv X pins σ H s1) E s
  self : ∀ (A : Around) (i : Nat) (s : Shared) (Q : Value → Shared → Prop) (E : Value → Shared → Prop), tn i s.heap → Q (.ref it) s → wpAny (model P w) A (pyIter (.ref it)) Q E s
abbrev TI := St → Hp → (It → Hp → Prop) → Prop
/-- an iterator has come -/
def PIE (X : Cx) (pins : List (Addr × Obj)) (σ : St) (tg : Expr) (R : It → Hp → Prop) (itv : Value) (s2 : Shared) : Prop :=
  ∃ (it : Addr) (fp : List Addr) (tn : Nat → Heap → Prop) (J : It) (H' : Hp), itv = .ref it ∧ Inv X pins σ H' s2 ∧ Turn X.prog X.w X.K tg J fp it tn ∧ tn 0 s2.heap ∧ (∀ b ∈ fp, FpOk X pins H' b) ∧ R J H'
def PI (X : Cx) (tg iter : Expr) (wi : TI) : Prop :=
  ∀ (pins : List (Addr × Obj)) (s : Shared) (σ : St) (H : Hp) (R : It → Hp → Prop), Inv X pins σ H s → wi σ H R →
    wpAny (model X.prog X.w) X.A (eval iter X.env) (fun v s1 => wpAny (model X.prog X.w) X.A (pyIter v) (PIE X pins σ tg R) X.xe s1) X.xe s

/-- the step ahead of the store is nothing for an iterator that keeps no tuple -/
theorem go_of {M : Model} {A : Around} {E : Value → Shared → Prop} {s : Shared} {tg : Expr} {it : Addr} {u : Value} {o : Obj} {n : String} {vs : Array Value} {Q : Unit → Shared → Prop} (ho : s.heap.get? it = some o) (hc : o.cls = .type n) (hd : o.data = .fields vs)
    (hn : ["enumerate", "zip", "dict_itemiterator", "dict_reverseitemiterator", "odict_iterator", "itertools.zip_longest", "itertools.pairwise"].contains n = false) (hQ : Q () s) : wpAny M A (letOwnedTupleGo tg (.ref it) u) Q E s := by
  unfold letOwnedTupleGo
  cases tg <;> first
    | exact wpAny_pure hQ
    | (cases u <;> first
        | exact wpAny_pure hQ
        | (refine wpAny_bind (wpAny_load ho ?_)
           rw [hc, hd]
           show wpAny M A (if (["enumerate", "zip", "dict_itemiterator", "dict_reverseitemiterator", "odict_iterator", "itertools.zip_longest", "itertools.pairwise"].contains n && vs[0]? == some (rawInt _)) = true then _ else _) Q E s
           rw [if_neg (by intro h; rw [hn, Bool.false_and] at h; cases h)]
           exact wpAny_pure hQ))

/-- the list at a, as it stands at each turn (a loop may append to it) -/
def Itl (K : PySem.W.Frag) (a : Addr) : It :=
  ⟨fun i H => ∃ xs x, SqL K H a xs ∧ xs[i]? = some x, fun i H x H' => H' = H ∧ ∀ xs, SqL K H a xs → xs[i]? = some x, fun i H => ∃ xs, SqL K H a xs ∧ xs.length ≤ i⟩
def Itt (K : PySem.W.Frag) (a : Addr) : It :=
  ⟨fun i H => ∃ xs x, SqT K H a xs ∧ xs[i]? = some x, fun i H x H' => H' = H ∧ ∀ xs, SqT K H a xs → xs[i]? = some x, fun i H => ∃ xs, SqT K H a xs ∧ xs.length ≤ i⟩
/-- lo, lo + 1, .. (n of them) -/
def Itr (lo : Int) (n : Nat) : It := ⟨fun i _ => i < n, fun i H x H' => H' = H ∧ x = .int (lo + i), fun i _ => n ≤ i⟩
theorem turn_list {P : Program} {w : World} {K : PySem.W.Frag} {tg : Expr} (a it : Addr) : Turn P w K tg (Itl K a) [it] it (fun i h => h.IsListIter it a i) where
  mem := by simp
  obj := fun i h st b hb => by
    have e : b = it := by simpa using hb
    subst e
    obtain ⟨o, e, c, d⟩ := st
    exact ⟨o, e, fun v z => by rw [d] at z; cases z⟩
  keep := fun i h h' st k => st.at fun o e => k it (by simp) o e
  item := by
    intro X hP hw hK hc i pins s σ H E I hf st hg
    subst hP hw hK
    obtain ⟨xs, x, hq, hx⟩ := hg
    obtain ⟨its, rv, p, hz⟩ := I.list hq
    obtain ⟨u, hu, ru⟩ := rv.get hx
    obtain ⟨f0, f1, f2, f3, f4, f5⟩ := hf it (by simp)
    refine wpAny_pyNext_list_item st p.isList (x := u) (by simpa using hu) fun h' st' sb => ?_
    have I1 : Inv X pins σ H { s with heap := h' } := I.turned (t' := s.toks) (fun b o hb e => (sb.2 b hb).trans e) f0 f1 f3 f4 f5
    obtain ⟨o, e, c, d⟩ := id st'
    exact ⟨u, rfl, go_of (s := { s with heap := h' }) e c d (by decide) ⟨x, H, I1, ru, ⟨rfl, fun ys hy => by rw [I.list_inj hy hq]; exact hx⟩, st', fun b hb => (hf b hb).1⟩⟩
  done := by
    intro X hP hw hK hc i pins s σ H E I hf st hg
    subst hP hw hK
    obtain ⟨xs, hq, hx⟩ := hg
    obtain ⟨its, rv, p, hz⟩ := I.list hq
    obtain ⟨f0, f1, f2, f3, f4, f5⟩ := hf it (by simp)
    have hl := rv.length
    exact wpAny_pyNext_list_end (I.ok.hd hc) st p.isList (by simp; omega) fun h' eb => ⟨rfl, I.turned (t' := s.toks) (fun b o hb e => eb b o hb e) f0 f1 f3 f4 f5⟩
  self := fun _ _ _ _ _ st h => wpAny_pyIter_listiter st h
theorem turn_tuple {P : Program} {w : World} {K : PySem.W.Frag} {tg : Expr} (a it : Addr) : Turn P w K tg (Itt K a) [it] it (fun i h => h.IsTupleIter it a i) where
  mem := by simp
  obj := fun i h st b hb => by
    have e : b = it := by simpa using hb
    subst e
    obtain ⟨o, e, c, d⟩ := st
    exact ⟨o, e, fun v z => by rw [d] at z; cases z⟩
  keep := fun i h h' st k => st.at fun o e => k it (by simp) o e
  item := by
    intro X hP hw hK hc i pins s σ H E I hf st hg
    subst hP hw hK
    obtain ⟨xs, x, hq, hx⟩ := hg
    obtain ⟨its, rv, p, hz⟩ := I.tuple hq
    obtain ⟨u, hu, ru⟩ := rv.get hx
    obtain ⟨f0, f1, f2, f3, f4, f5⟩ := hf it (by simp)
    refine wpAny_pyNext_tuple_item st (show s.heap.IsTuple a its.toArray from p) (x := u) (by simpa using hu) fun h' st' sb => ?_
    have I1 : Inv X pins σ H { s with heap := h' } := I.turned (t' := s.toks) (fun b o hb e => (sb.2 b hb).trans e) f0 f1 f3 f4 f5
    obtain ⟨o, e, c, d⟩ := id st'
    exact ⟨u, rfl, go_of (s := { s with heap := h' }) e c d (by decide) ⟨x, H, I1, ru, ⟨rfl, fun ys hy => by rw [I.tuple_inj hy hq]; exact hx⟩, st', fun b hb => (hf b hb).1⟩⟩
  done := by
    intro X hP hw hK hc i pins s σ H E I hf st hg
    subst hP hw hK
    obtain ⟨xs, hq, hx⟩ := hg
    obtain ⟨its, rv, p, hz⟩ := I.tuple hq
    obtain ⟨f0, f1, f2, f3, f4, f5⟩ := hf it (by simp)
    have hl := rv.length
    exact wpAny_pyNext_tuple_end (I.ok.hd hc) st (show s.heap.IsTuple a its.toArray from p) (by simp; omega) fun h' eb => ⟨rfl, I.turned (t' := s.toks) (fun b o hb e => eb b o hb e) f0 f1 f3 f4 f5⟩
  self := fun _ _ _ _ _ st h => wpAny_pyIter_tupleiter st h
theorem turn_range {P : Program} {w : World} {K : PySem.W.Frag} {tg : Expr} (it : Addr) (lo : Int) (n : Nat) : Turn P w K tg (Itr lo n) [it] it (fun i h => IsRangeIter h it (lo + (i : Nat) * 1) ((n : Int) - (i : Nat)) 1) where
  mem := by simp
  obj := fun i h st b hb => by
    have e : b = it := by simpa using hb
    subst e
    exact ⟨_, st, fun v z => by
      have z' : Data.fields _ = Data.cell v := z
      cases z'⟩
  keep := fun i h h' st k => k it (by simp) _ st
  item := by
    intro X hP hw hK hc i pins s σ H E I hf st hg
    subst hP hw hK
    obtain ⟨f0, f1, f2, f3, f4, f5⟩ := hf it (by simp)
    have W := Walks.range (prog := X.prog) (w := X.w) (I.ok.hd hc) it lo 1 n
    refine W.item i s _ _ hg st fun v h' tk hv st' kk => ?_
    obtain ⟨t, rfl⟩ := hv
    have I1 : Inv X pins σ H { s with heap := h', toks := tk } := I.turned (fun b o hb e => kk b o (by simpa using hb) e) f0 f1 f3 f4 f5
    refine ⟨_, rfl, go_of (s := { s with heap := h', toks := tk }) (n := "range_iterator") st' rfl rfl (by decide) ⟨.int (lo + i), H, I1, ⟨t, ?_⟩, ⟨rfl, rfl⟩, st', fun b hb => (hf b hb).1⟩⟩
    rw [Int.mul_one]
  done := by
    intro X hP hw hK hc i pins s σ H E I hf st hg
    subst hP hw hK
    obtain ⟨f0, f1, f2, f3, f4, f5⟩ := hf it (by simp)
    exact wpAny_pyNext_range_end (I.ok.hd hc) st (by have : n ≤ i := hg; omega) fun h' eb => ⟨rfl, I.turned (t' := s.toks) (fun b o hb e => eb b o hb e) f0 f1 f3 f4 f5⟩
  self := fun _ _ _ _ _ st h => wpAny_pyIter_rangeiter st h
end L2

namespace L2
open PySem PySem.Spec PyProof.Rows
section
variable {X : Cx} {tg : Expr}
def iList (K : PySem.W.Frag) (tl : TE) : TI := fun σ H R => tl σ H fun x H1 => ∃ a, x = .ref a ∧ (∃ xs, SqL K H1 a xs) ∧ R (Itl K a) H1
def iTup (K : PySem.W.Frag) (tl : TE) : TI := fun σ H R => tl σ H fun x H1 => ∃ a, x = .ref a ∧ (∃ xs, SqT K H1 a xs) ∧ R (Itt K a) H1
theorem pi_list {l : Expr} {tl : TE} (hl : PE X l tl) : PI X tg l (iList X.K tl) := by
  intro pins s σ H R I h
  refine thn (hl pins s σ H _ I h) fun v s1 ⟨x, H1, I1, r1, q1⟩ => ?_
  obtain ⟨a, e, ⟨xs, hq⟩, q⟩ := q1
  subst e
  cases r1
  obtain ⟨its, rv, p, hz⟩ := I1.list hq
  refine wpAny_pyIter_list p.isList ?_
  refine ⟨s1.heap.objs.size, [s1.heap.objs.size], _, _, H1, rfl, I1.kept (t' := s1.toks) fun b o e => Heap.get?_push_of_some _ e, turn_list a _, ⟨_, Heap.get?_push_size _ rfl, rfl, rfl⟩, fun b hb => ?_, q⟩
  have e : b = s1.heap.objs.size := by simpa using hb
  subst e
  exact I1.fpOk (Nat.le_refl _) (I1.hok.fresh (Nat.le_refl _))
theorem pi_tup {l : Expr} {tl : TE} (hl : PE X l tl) : PI X tg l (iTup X.K tl) := by
  intro pins s σ H R I h
  refine thn (hl pins s σ H _ I h) fun v s1 ⟨x, H1, I1, r1, q1⟩ => ?_
  obtain ⟨a, e, ⟨xs, hq⟩, q⟩ := q1
  subst e
  cases r1
  obtain ⟨its, rv, p, hz⟩ := I1.tuple hq
  refine wpAny_pyIter_tuple (show s1.heap.IsTuple a its.toArray from p) ?_
  refine ⟨s1.heap.objs.size, [s1.heap.objs.size], _, _, H1, rfl, I1.kept (t' := s1.toks) fun b o e => Heap.get?_push_of_some _ e, turn_tuple a _, ⟨_, Heap.get?_push_size _ rfl, rfl, rfl⟩, fun b hb => ?_, q⟩
  have e : b = s1.heap.objs.size := by simpa using hb
  subst e
  exact I1.fpOk (Nat.le_refl _) (I1.hok.fresh (Nat.le_refl _))
/-- a range object just made, walked -/
theorem range_it {pins : List (Addr × Obj)} {σ : St} {H : Hp} {s : Shared} {R : It → Hp → Prop} {E : Value → Shared → Prop} {lo hi : Int} {t u v : Tok} {tk : Nat} (I : Inv X pins σ H s) (h1 : -(2 ^ 62) ≤ lo) (h2 : lo < 2 ^ 62) (h3 : -(2 ^ 62) ≤ hi) (h4 : hi < 2 ^ 62)
    (q : R (Itr lo (hi - lo).toNat) H) : wpAny (model X.prog X.w) X.A (pyIter (.ref s.heap.objs.size)) (PIE X pins σ tg R) E { s with heap := s.heap.push { cls := .type "range", data := .fields #[.int lo t, .int hi u, .int 1 v] }, toks := tk } := by
  refine wpAny_pyIter_range (IsRange.new ..) (small_one h1 h2 h3 h4) ?_
  have I1 : Inv X pins σ H { s with heap := s.heap.push { cls := .type "range", data := .fields #[.int lo t, .int hi u, .int 1 v] }, toks := tk } := I.kept fun b o e => Heap.get?_push_of_some _ e
  refine ⟨(s.heap.push { cls := .type "range", data := .fields #[.int lo t, .int hi u, .int 1 v] }).objs.size, [(s.heap.push { cls := .type "range", data := .fields #[.int lo t, .int hi u, .int 1 v] }).objs.size], _, _, H, rfl,
    I1.kept (t' := tk) fun b o e => Heap.get?_push_of_some _ e, turn_range _ lo (hi - lo).toNat, ?_, fun b hb => ?_, q⟩
  · have e1 : lo + ((0 : Nat) : Int) * 1 = lo := by simp
    have e2 : (((hi - lo).toNat : Nat) : Int) - ((0 : Nat) : Int) = Builtin.Range.rangeSize lo hi 1 := by rw [rangeSize_one]; split <;> omega
    show IsRangeIter _ _ (lo + ((0 : Nat) : Int) * 1) ((((hi - lo).toNat : Nat) : Int) - ((0 : Nat) : Int)) 1
    rw [e1, e2]
    exact Heap.get?_push_size _ rfl
  · have e : b = (s.heap.push { cls := .type "range", data := .fields #[.int lo t, .int hi u, .int 1 v] }).objs.size := by simpa using hb
    subst e
    exact I1.fpOk (Nat.le_refl _) (I1.hok.fresh (Nat.le_refl _))
def iRng1 (ta : TA) : TI := fun σ H R => ta σ H fun vs H1 => ∃ j : Int, vs = [.int j] ∧ -(2 ^ 62) ≤ j ∧ j < 2 ^ 62 ∧ R (Itr 0 j.toNat) H1
def iRng2 (ta : TA) : TI := fun σ H R => ta σ H fun vs H1 => ∃ i j : Int, vs = [.int i, .int j] ∧ (-(2 ^ 62) ≤ i ∧ i < 2 ^ 62 ∧ -(2 ^ 62) ≤ j ∧ j < 2 ^ 62) ∧ R (Itr i (j - i).toNat) H1
theorem pi_range1 {a : Expr} {ta : TA} {p pos : Pos} (hg : Gl X "range") (hm : X.mg "range" = none) (ha : PA X [a] ta) (hs : starEach [a] X.env = [(false, eval a X.env)] := by rfl) : PI X tg (.Call (.Name "range" p) [a] [] pos) (iRng1 ta) := by
  intro pins s σ H R I h
  refine Call_ (ld_blt I hg hm boot_range (PyProof.Rows.callWith_type1 (thn (ha pos pins s σ H _ I h) fun us s1 ⟨vs, H1, I1, r1, q1⟩ => ?_) hs rfl))
  obtain ⟨j, e, q1, q2, q⟩ := q1
  subst e
  cases r1 with
  | cons r rr =>
    cases rr
    obtain ⟨t, rfl⟩ := r
    exact call_range_1 (range_it I1 (by omega) (by omega) q1 q2 (by simpa using q))
theorem pi_range2 {a b : Expr} {ta : TA} {p pos : Pos} (hg : Gl X "range") (hm : X.mg "range" = none) (ha : PA X [a, b] ta) (hs : starEach [a, b] X.env = [(false, eval a X.env), (false, eval b X.env)] := by rfl) (hs2 : starEach [b] X.env = [(false, eval b X.env)] := by rfl) :
    PI X tg (.Call (.Name "range" p) [a, b] [] pos) (iRng2 ta) := by
  intro pins s σ H R I h
  refine Call_ (ld_blt I hg hm boot_range (PyProof.Rows.callWith_type1 (thn (ha pos pins s σ H _ I h) fun us s1 ⟨vs, H1, I1, r1, q1⟩ => ?_) (by rw [hs, hs2]) (by rw [hs2]; rfl)))
  obtain ⟨i, j, e, ⟨q1, q2, q3, q4⟩, q⟩ := q1
  subst e
  cases r1 with
  | cons r rr =>
    cases rr with
    | cons r' rr =>
      cases rr
      obtain ⟨t, rfl⟩ := r
      obtain ⟨t', rfl⟩ := r'
      exact call_range_2 (range_it I1 q1 q2 q3 q4 q)

/-! ### for -/
/-- W: the invariant by the turn and a measure; N: what the body is to reach -/
def tFor (wi : TI) (g : TG) (tb : TS) : TS := fun D σ H => wi σ H fun J H1 => ∃ W : Nat → Nat → St → Hp → Prop, (∃ m, W 0 m σ H1) ∧ ∀ i m σ H, W i m σ H →
  (J.stop i H ∧ D.nx σ H) ∨ (J.go i H ∧ ∃ N : St → Hp → Prop, (∀ σ' H', N σ' H' → ∃ m', m' < m ∧ W (i + 1) m' σ' H') ∧ ∀ x H', J.yld i H x H' → g x σ H' fun σ2 H2 => tb { D with nx := N, ct := N, bk := D.nx } σ2 H2)
/-- the records at fp as they stand -/
def pinsAt (fp : List Addr) (h : Heap) : List (Addr × Obj) := fp.filterMap fun b => (h.get? b).map fun o => (b, o)
theorem mem_pinsAt {fp : List Addr} {h : Heap} {b : Addr} {o : Obj} (hb : b ∈ fp) (e : h.get? b = some o) : (b, o) ∈ pinsAt fp h := List.mem_filterMap.mpr ⟨b, hb, by rw [e]; rfl⟩
theorem of_pinsAt {fp : List Addr} {h : Heap} {p : Addr × Obj} (hp : p ∈ pinsAt fp h) : p.1 ∈ fp ∧ h.get? p.1 = some p.2 := by
  obtain ⟨b, hb, e⟩ := List.mem_filterMap.mp hp
  cases q : h.get? b with
  | none => rw [q] at e; cases e
  | some o =>
    rw [q] at e
    have e' : (b, o) = p := Option.some.inj e
    subst e'
    exact ⟨hb, q⟩
theorem Inv.pinned {pins : List (Addr × Obj)} {σ : St} {H : Hp} {s : Shared} {fp : List Addr} (I : Inv X pins σ H s) (hf : ∀ b ∈ fp, FpOk X pins H b) (ho : ∀ b ∈ fp, ∃ o, s.heap.get? b = some o ∧ ∀ v, o.data ≠ .cell v) : Inv X (pins ++ pinsAt fp s.heap) σ H s :=
  I.pins_of fun p hp => (List.mem_append.mp hp).elim (fun z => I.pin p (List.mem_append_right _ z)) fun z => by
    obtain ⟨hb, e⟩ := of_pinsAt z
    obtain ⟨f0, f1, f2, _⟩ := hf p.1 hb
    obtain ⟨o, e', d⟩ := ho p.1 hb
    rw [e] at e'; cases e'
    exact ⟨e, f0, f1, f2, d⟩
theorem Inv.unpinned {pins pl : List (Addr × Obj)} {σ : St} {H : Hp} {s : Shared} (I : Inv X (pins ++ pl) σ H s) : Inv X pins σ H s := I.pins_of fun p hp => I.pin p (List.mem_append_right _ (List.mem_append_left _ hp))
theorem ps_for {iter : Expr} {body : List Stmt} {wi : TI} {g : TG} {tb : TS} {pos : Pos} (hp : PassesOwn (model X.prog X.w) X.A X.env X.xe) (hc : X.calm = true) (hi : PI X tg iter wi) (hg : PG X tg g) (hb : PSs X body tb)
    (hs : ∀ x, foldedSetIterable iter X.env x = pure x := by intro _; rfl) : PS X (.For tg iter body [] pos) (tFor wi g tb) := by
  intro pins s σ H D I h
  refine wpAny_For (thn (hi pins s σ H _ I h) fun v s1 h1 => thn h1 fun itv s2 h2 => ?_) hs
  obtain ⟨it, fp, tn, J, H2, e, I2, T, st2, f2, W, ⟨m0, w0⟩, turn⟩ := h2
  subst e
  -- what stays true of the iterator's objects through the loop
  have stat : ∀ {H' : Hp}, (∀ b ∈ fp, H' b = none) → ∀ b ∈ fp, FpOk X pins H' b := fun hn b hb => ⟨hn b hb, (f2 b hb).2⟩
  refine codeAny_forLoop_any (fun n s' => ∃ i σ' H', Inv X pins σ' H' s' ∧ tn i s'.heap ∧ (∀ b ∈ fp, H' b = none) ∧ W i n σ' H') ?_ m0 ⟨0, σ, H2, I2, st2, fun b hb => (f2 b hb).1, w0⟩
  rintro n s3 ⟨i, σ3, H3, I3, st3, fr3, w3⟩
  rcases turn i n σ3 H3 w3 with ⟨stop, qn⟩ | ⟨go, N, hN, step⟩
  · refine wpAny_passesOwn hp (thn (T.done X rfl rfl rfl hc i pins s3 σ3 H3 X.xe I3 (stat fr3) st3 stop) fun r s4 ⟨hr, I4⟩ => ?_)
    subst hr
    exact wpAny_execs_nil ⟨σ3, H3, I4, qn⟩
  · refine wpAny_passesOwn hp (thn (T.item X rfl rfl rfl hc i pins s3 σ3 H3 X.xe I3 (stat fr3) st3 go) fun r s4 ⟨u, hr, h4⟩ => ?_)
    subst hr
    refine wpAny_passesOwn hp (thn h4 fun _ s5 ⟨x, H5, I5, r5, y5, st5, fr5⟩ => ?_)
    have I5' := I5.pinned (stat fr5) (T.obj _ _ st5)
    refine wpAny_passesOwn hp (thn (hg _ s5 σ3 H5 x u _ I5' r5 (step x H5 y5)) fun _ s6 ⟨σ6, H6, I6, q6⟩ => ?_)
    refine wpAny_passesOwn hp (thn (hb _ s6 σ6 H6 _ I6 q6) fun f s7 q7 => ?_)
    have again : ∀ {σ7 : St} {H7 : Hp}, Inv X (pins ++ pinsAt fp s5.heap) σ7 H7 s7 → N σ7 H7 → ∃ m, m < n ∧ ∃ i σ' H', Inv X pins σ' H' s7 ∧ tn i s7.heap ∧ (∀ b ∈ fp, H' b = none) ∧ W i m σ' H' := fun {σ7 H7} I7 n7 => by
      obtain ⟨m', hm, w7⟩ := hN σ7 H7 n7
      refine ⟨m', hm, i + 1, σ7, H7, I7.unpinned, T.keep _ _ _ st5 fun b hb o e => (I7.pin (b, o) (List.mem_append_right _ (List.mem_append_right _ (mem_pinsAt hb e)))).1, fun b hb => ?_, w7⟩
      obtain ⟨o, e, d⟩ := T.obj _ _ st5 b hb
      exact (I7.pin (b, o) (List.mem_append_right _ (List.mem_append_right _ (mem_pinsAt hb e)))).2.1
    cases f with
    | next => obtain ⟨σ7, H7, I7, n7⟩ := q7; exact again I7 n7
    | cont => obtain ⟨σ7, H7, I7, n7⟩ := q7; exact again I7 n7
    | brk => obtain ⟨σ7, H7, I7, q7⟩ := q7; exact ⟨σ7, H7, I7.unpinned, q7⟩
    | ret v => obtain ⟨x7, σ7, H7, I7, r7, q7⟩ := q7; exact ⟨x7, σ7, H7, I7.unpinned, r7, q7⟩
end

/-! ### the forms one uses -/
/-- over a list that the body leaves as it is -/
theorem for_list {K : PySem.W.Frag} {a : Addr} {xs : List V} {g : TG} {tb : TS} {D : Ends} {σ : St} {H : Hp} (Pv : Nat → St → Hp → Prop) (h0 : Pv 0 σ H) (hl : ∀ i σ H, i ≤ xs.length → Pv i σ H → SqL K H a xs)
    (hs : ∀ i x σ H, xs[i]? = some x → Pv i σ H → g x σ H fun σ2 H2 => tb { D with nx := Pv (i + 1), ct := Pv (i + 1), bk := D.nx } σ2 H2) (hd : ∀ σ H, Pv xs.length σ H → D.nx σ H) :
    ∃ W : Nat → Nat → St → Hp → Prop, (∃ m, W 0 m σ H) ∧ ∀ i m σ H, W i m σ H →
      ((Itl K a).stop i H ∧ D.nx σ H) ∨ ((Itl K a).go i H ∧ ∃ N : St → Hp → Prop, (∀ σ' H', N σ' H' → ∃ m', m' < m ∧ W (i + 1) m' σ' H') ∧ ∀ x H', (Itl K a).yld i H x H' → g x σ H' fun σ2 H2 => tb { D with nx := N, ct := N, bk := D.nx } σ2 H2) := by
  refine ⟨fun i m σ H => m = xs.length - i ∧ i ≤ xs.length ∧ Pv i σ H, ⟨xs.length, by simp, Nat.zero_le _, h0⟩, ?_⟩
  rintro i m σ H ⟨rfl, hi, p⟩
  have q := hl i σ H hi p
  by_cases hlt : i < xs.length
  · refine .inr ⟨⟨xs, xs[i], q, by simp [hlt]⟩, Pv (i + 1), fun σ' H' p' => ⟨xs.length - (i + 1), by omega, rfl, hlt, p'⟩, fun x H' y => ?_⟩
    obtain ⟨e, y⟩ := y
    subst e
    exact hs i x σ _ (y xs q) p
  · have e : i = xs.length := by omega
    subst e
    exact .inl ⟨⟨xs, q, Nat.le_refl _⟩, hd σ H p⟩
theorem for_tup {K : PySem.W.Frag} {a : Addr} {xs : List V} {g : TG} {tb : TS} {D : Ends} {σ : St} {H : Hp} (Pv : Nat → St → Hp → Prop) (h0 : Pv 0 σ H) (hl : ∀ i σ H, i ≤ xs.length → Pv i σ H → SqT K H a xs)
    (hs : ∀ i x σ H, xs[i]? = some x → Pv i σ H → g x σ H fun σ2 H2 => tb { D with nx := Pv (i + 1), ct := Pv (i + 1), bk := D.nx } σ2 H2) (hd : ∀ σ H, Pv xs.length σ H → D.nx σ H) :
    ∃ W : Nat → Nat → St → Hp → Prop, (∃ m, W 0 m σ H) ∧ ∀ i m σ H, W i m σ H →
      ((Itt K a).stop i H ∧ D.nx σ H) ∨ ((Itt K a).go i H ∧ ∃ N : St → Hp → Prop, (∀ σ' H', N σ' H' → ∃ m', m' < m ∧ W (i + 1) m' σ' H') ∧ ∀ x H', (Itt K a).yld i H x H' → g x σ H' fun σ2 H2 => tb { D with nx := N, ct := N, bk := D.nx } σ2 H2) := by
  refine ⟨fun i m σ H => m = xs.length - i ∧ i ≤ xs.length ∧ Pv i σ H, ⟨xs.length, by simp, Nat.zero_le _, h0⟩, ?_⟩
  rintro i m σ H ⟨rfl, hi, p⟩
  have q := hl i σ H hi p
  by_cases hlt : i < xs.length
  · refine .inr ⟨⟨xs, xs[i], q, by simp [hlt]⟩, Pv (i + 1), fun σ' H' p' => ⟨xs.length - (i + 1), by omega, rfl, hlt, p'⟩, fun x H' y => ?_⟩
    obtain ⟨e, y⟩ := y
    subst e
    exact hs i x σ _ (y xs q) p
  · have e : i = xs.length := by omega
    subst e
    exact .inl ⟨⟨xs, q, Nat.le_refl _⟩, hd σ H p⟩
theorem for_range {lo : Int} {n : Nat} {g : TG} {tb : TS} {D : Ends} {σ : St} {H : Hp} (Pv : Nat → St → Hp → Prop) (h0 : Pv 0 σ H)
    (hs : ∀ i σ H, i < n → Pv i σ H → g (.int (lo + i)) σ H fun σ2 H2 => tb { D with nx := Pv (i + 1), ct := Pv (i + 1), bk := D.nx } σ2 H2) (hd : ∀ σ H, Pv n σ H → D.nx σ H) :
    ∃ W : Nat → Nat → St → Hp → Prop, (∃ m, W 0 m σ H) ∧ ∀ i m σ H, W i m σ H →
      ((Itr lo n).stop i H ∧ D.nx σ H) ∨ ((Itr lo n).go i H ∧ ∃ N : St → Hp → Prop, (∀ σ' H', N σ' H' → ∃ m', m' < m ∧ W (i + 1) m' σ' H') ∧ ∀ x H', (Itr lo n).yld i H x H' → g x σ H' fun σ2 H2 => tb { D with nx := N, ct := N, bk := D.nx } σ2 H2) := by
  refine ⟨fun i m σ H => m = n - i ∧ i ≤ n ∧ Pv i σ H, ⟨n, by simp, Nat.zero_le _, h0⟩, ?_⟩
  rintro i m σ H ⟨rfl, hi, p⟩
  by_cases hlt : i < n
  · refine .inr ⟨hlt, Pv (i + 1), fun σ' H' p' => ⟨n - (i + 1), by omega, rfl, hlt, p'⟩, fun x H' y => ?_⟩
    obtain ⟨e, y⟩ := y
    subst e y
    exact hs i σ _ hlt p
  · have e : i = n := by omega
    subst e
    exact .inl ⟨Nat.le_refl _, hd σ H p⟩
/-- while, by a word and a measure of the state -/
theorem while_by {c : TT} {tb : TS} {D : Ends} {σ : St} {H : Hp} (Pv : St → Hp → Prop) (μ : St → Hp → Nat) (h0 : Pv σ H)
    (hs : ∀ σ H, Pv σ H → c σ H fun b H1 => if b = true then tb { D with nx := fun σ' H' => Pv σ' H' ∧ μ σ' H' < μ σ H, ct := fun σ' H' => Pv σ' H' ∧ μ σ' H' < μ σ H, bk := D.nx } σ H1 else D.nx σ H1)
    (mono : ∀ σ H Q Q', (∀ b H1, Q b H1 → Q' b H1) → c σ H Q → c σ H Q') : tWhile c tb D σ H := by
  refine ⟨fun m σ H => m = μ σ H ∧ Pv σ H, ⟨_, rfl, h0⟩, ?_⟩
  rintro m σ H ⟨rfl, p⟩
  refine mono σ H _ _ (fun b H1 q => ?_) (hs σ H p)
  cases b with
  | true => exact ⟨_, fun σ' H' ⟨p', l⟩ => ⟨_, l, rfl, p'⟩, q⟩
  | false => exact q
end L2

namespace L2
open PySem PySem.Spec PyProof.Rows

abbrev R2 := V → V → Hp → VK → Prop
/-- a two-place operation on values: f is binaryOp op, inplaceOp op or compareOp op -/
def OpR (X : Cx) (f : Value → Value → Sem Value) (r : R2) : Prop :=
  ∀ (pins : List (Addr × Obj)) (s : Shared) (σ : St) (H : Hp) (x y : V) (v u : Value) (Q : VK), Inv X pins σ H s → RelV x v → RelV y u → r x y H Q →
    wpAny (model X.prog X.w) X.A (f v u) (EP X pins σ Q) X.xe s
/-- a one-place operation -/
def UnR (X : Cx) (f : Value → Sem Value) (r : V → Hp → VK → Prop) : Prop :=
  ∀ (pins : List (Addr × Obj)) (s : Shared) (σ : St) (H : Hp) (x : V) (v : Value) (Q : VK), Inv X pins σ H s → RelV x v → r x H Q →
    wpAny (model X.prog X.w) X.A (f v) (EP X pins σ Q) X.xe s
/-- a call of a value that is known (a builtin, a type) with values -/
def CallR (X : Cx) (f : Value) (r : List V → Hp → VK → Prop) : Prop :=
  ∀ (pins : List (Addr × Obj)) (s : Shared) (σ : St) (H : Hp) (xs : List V) (us : List Value) (Q : VK), Inv X pins σ H s → Vals xs us → r xs H Q →
    wpAny (model X.prog X.w) X.A (call f us) (EP X pins σ Q) X.xe s
/-- a value's truth -/
def TruR (X : Cx) (r : V → Hp → (Bool → Hp → Prop) → Prop) : Prop :=
  ∀ (pins : List (Addr × Obj)) (s : Shared) (σ : St) (H : Hp) (x : V) (v : Value) (Q : Bool → Hp → Prop), Inv X pins σ H s → RelV x v → r x H Q →
    wpAny (model X.prog X.w) X.A (truthy v) (TP X pins σ Q) X.xe s

def tOp (r : R2) (ta tb : TE) : TE := fun σ H Q => ta σ H fun x H1 => tb σ H1 fun y H2 => r x y H2 Q
def tUn (r : V → Hp → VK → Prop) (ta : TE) : TE := fun σ H Q => ta σ H fun x H1 => r x H1 Q
/-- ints in, under C, and a value out -/
def rI (C : Int → Int → Prop) (g : Int → Int → V) : R2 := fun x y H Q => ∃ i j, x = .int i ∧ y = .int j ∧ C i j ∧ Q (g i j) H
def rI0 (g : Int → Int → V) : R2 := fun x y H Q => ∃ i j, x = .int i ∧ y = .int j ∧ Q (g i j) H
def rU (g : Int → V) : V → Hp → VK → Prop := fun x H Q => ∃ i, x = .int i ∧ Q (g i) H

section
variable {X : Cx} {a b c : Expr} {ta tb tc : TE} {pos : Pos}

theorem binT (ha : PE X a ta) (hb : PE X b tb) {pins : List (Addr × Obj)} {s : Shared} {σ : St} {H : Hp} {R : V → V → Hp → Prop} (I : Inv X pins σ H s)
    (h : ta σ H fun x H1 => tb σ H1 fun y H2 => R x y H2) {Q : Value → Shared → Prop} {f : Value → Value → Sem Value}
    (hf : ∀ v u s2 x y H2, Inv X pins σ H2 s2 → RelV x v → RelV y u → R x y H2 → wpAny (model X.prog X.w) X.A (f v u) Q X.xe s2) :
    wpAny (model X.prog X.w) X.A (eval a X.env) (fun v s₁ => wpAny (model X.prog X.w) X.A (eval b X.env) (fun u s₂ => wpAny (model X.prog X.w) X.A (f v u) Q X.xe s₂) X.xe s₁) X.xe s := by
  refine thn (ha pins s σ H _ I h) fun v s1 ⟨x, H1, I1, r1, q1⟩ => ?_
  refine thn (hb pins s1 σ H1 _ I1 q1) fun u s2 ⟨y, H2, I2, r2, q2⟩ => ?_
  exact hf v u s2 x y H2 I2 r1 r2 q2

theorem pe_op {op : Operator} {r : R2} (ho : OpR X (binaryOp op) r) (ha : PE X a ta) (hb : PE X b tb) : PE X (.BinOp a op b pos) (tOp r ta tb) := by
  intro pins s σ H Q I h
  exact wpAny_BinOp (binT ha hb I h fun v u s2 x y H2 I2 rx ry q => ho pins s2 σ H2 x y v u Q I2 rx ry q)
theorem pe_un {op : UnaryOp} {r : V → Hp → VK → Prop} (ho : UnR X (unaryOp op) r) (ha : PE X a ta) : PE X (.UnaryOp op a pos) (tUn r ta) := by
  intro pins s σ H Q I h
  exact UnaryOp_ (thn (ha pins s σ H _ I h) fun v s1 ⟨x, H1, I1, r1, q1⟩ => ho pins s1 σ H1 x v Q I1 r1 q1)
/-- a op= e at a name: the name's slot i -/
theorem augR {op : Operator} {r : R2} (ho : OpR X (inplaceOp op) r) {pins : List (Addr × Obj)} {s : Shared} {σ : St} {H : Hp} {x y : V} {v u : Value} {Q : VK} (I : Inv X pins σ H s)
    (rx : RelV x v) (ry : RelV y u) (q : r x y H Q) : wpAny (model X.prog X.w) X.A (inplaceOp op v u) (EP X pins σ Q) X.xe s := ho pins s σ H x y v u Q I rx ry q

/-! ### ints -/
theorem opI {f : Value → Value → Sem Value} {C : Int → Int → Prop} {g : Int → Int → Int}
    (rule : ∀ (i j : Int) (t u : Tok) (s : Shared) (Q : Value → Shared → Prop) (E : Value → Shared → Prop), C i j → Q (.int (g i j) s.toks) { s with toks := s.toks + 1 } → wpAny (model X.prog X.w) X.A (f (.int i t) (.int j u)) Q E s) :
    OpR X f (rI C fun i j => .int (g i j)) := by
  intro pins s σ H x y v u Q I rx ry h
  obtain ⟨i, j, rfl, rfl, hc, q⟩ := h
  obtain ⟨t, rfl⟩ := rx
  obtain ⟨t', rfl⟩ := ry
  exact rule i j t t' s _ _ hc ⟨.int (g i j), H, I.tok _, ⟨_, rfl⟩, q⟩
theorem opI0 {f : Value → Value → Sem Value} {g : Int → Int → Int}
    (rule : ∀ (i j : Int) (t u : Tok) (s : Shared) (Q : Value → Shared → Prop) (E : Value → Shared → Prop), Q (.int (g i j) s.toks) { s with toks := s.toks + 1 } → wpAny (model X.prog X.w) X.A (f (.int i t) (.int j u)) Q E s) :
    OpR X f (rI0 fun i j => .int (g i j)) := by
  intro pins s σ H x y v u Q I rx ry h
  obtain ⟨i, j, rfl, rfl, q⟩ := h
  obtain ⟨t, rfl⟩ := rx
  obtain ⟨t', rfl⟩ := ry
  exact rule i j t t' s _ _ ⟨.int (g i j), H, I.tok _, ⟨_, rfl⟩, q⟩
theorem opB0 {f : Value → Value → Sem Value} {g : Int → Int → Bool}
    (rule : ∀ (i j : Int) (t u : Tok) (s : Shared) (Q : Value → Shared → Prop) (E : Value → Shared → Prop), Q (.bool (g i j)) s → wpAny (model X.prog X.w) X.A (f (.int i t) (.int j u)) Q E s) :
    OpR X f (rI0 fun i j => .bl (g i j)) := by
  intro pins s σ H x y v u Q I rx ry h
  obtain ⟨i, j, rfl, rfl, q⟩ := h
  obtain ⟨t, rfl⟩ := rx
  obtain ⟨t', rfl⟩ := ry
  exact rule i j t t' s _ _ ⟨.bl (g i j), H, I, rfl, q⟩

def CDiv (i j : Int) : Prop := 0 < j ∧ j < 1073741824
def CDivN (i j : Int) : Prop := j ≠ 0 ∧ j.natAbs < 1073741824
def CPow (i j : Int) : Prop := 0 ≤ j ∧ j ≤ 1000000 ∧ i.natAbs < 2 ^ 64
def CMul (i j : Int) : Prop := (-(2 ^ 64) < i ∧ i < 2 ^ 64) ∨ (-(2 ^ 64) < j ∧ j < 2 ^ 64)
theorem CMul.ok {i j : Int} (h : CMul i j) : IntMulOk i j := by
  rcases h with ⟨h1, h2⟩ | ⟨h1, h2⟩
  · exact .of_left (intBits_le_64 h1 h2)
  · exact .of_right (intBits_le_64 h1 h2)
theorem two_pow_nn (k : Nat) : (0 : Int) ≤ 2 ^ k := by
  rw [two_pow_cast]
  exact Int.natCast_nonneg _

theorem op_add : OpR X (binaryOp .Add) (rI0 fun i j => .int (i + j)) := opI0 fun _ _ _ _ _ _ _ q => add_int q
theorem op_sub : OpR X (binaryOp .Sub) (rI0 fun i j => .int (i - j)) := opI0 fun _ _ _ _ _ _ _ q => sub_int q
theorem op_mul : OpR X (binaryOp .Mult) (rI CMul fun i j => .int (i * j)) := opI fun _ _ _ _ _ _ _ hc q => mul_int q hc.ok
/-- // by a positive divisor -/
theorem op_fdiv : OpR X (binaryOp .FloorDiv) (rI CDiv fun i j => .int (i / j)) := opI fun i j _ _ _ _ _ hc q => by
  have h1 : (0 : Int) < j := hc.1
  have h2 : j < 1073741824 := hc.2
  exact floordiv_int (by omega) (by rw [Int.fdiv_eq_ediv_of_nonneg i (by omega)]; exact q) (.inl (PyProof.noPylong_small (by omega)))
theorem op_fdivN : OpR X (binaryOp .FloorDiv) (rI CDivN fun i j => .int (i.fdiv j)) := opI fun _ _ _ _ _ _ _ hc q => floordiv_int hc.1 q (.inl (PyProof.noPylong_small hc.2))
/-- % by a positive divisor of any size -/
theorem op_mod : OpR X (binaryOp .Mod) (rI (fun _ j => 0 < j) fun i j => .int (i % j)) := opI fun i j _ _ _ _ _ hc q => by
  have h1 : (0 : Int) < j := hc
  exact mod_int' (by omega) (by rw [Int.fmod_eq_emod_of_nonneg i (by omega)]; exact q)
theorem op_modN : OpR X (binaryOp .Mod) (rI (fun _ j => j ≠ 0) fun i j => .int (i.fmod j)) := opI fun _ _ _ _ _ _ _ hc q => mod_int' hc q
theorem op_pow : OpR X (binaryOp .Pow) (rI CPow fun i j => .int (i ^ j.toNat)) := opI fun _ _ _ _ _ _ _ hc q => pow_int_small hc.1 hc.2.1 hc.2.2 q
theorem op_shl : OpR X (binaryOp .LShift) (rI CPow fun i j => .int (i * 2 ^ j.toNat)) := opI fun _ _ _ _ _ _ _ hc q => lshift_int_small hc.1 hc.2.1 hc.2.2 q
theorem op_shr : OpR X (binaryOp .RShift) (rI (fun _ j => 0 ≤ j) fun i j => .int (i / 2 ^ j.toNat)) := opI fun i j _ _ _ _ _ hc q =>
  rshift_int hc (by rw [Int.fdiv_eq_ediv_of_nonneg i (two_pow_nn _)]; exact q)
theorem op_and : OpR X (binaryOp .BitAnd) (rI0 fun i j => .int (Builtin.bitAnd i j)) := opI0 fun _ _ _ _ _ _ _ q => and_int q
theorem op_or : OpR X (binaryOp .BitOr) (rI0 fun i j => .int (Builtin.bitOr i j)) := opI0 fun _ _ _ _ _ _ _ q => or_int q
theorem op_xor : OpR X (binaryOp .BitXor) (rI0 fun i j => .int (Builtin.bitXor i j)) := opI0 fun _ _ _ _ _ _ _ q => xor_int q

theorem iop_add : OpR X (inplaceOp .Add) (rI0 fun i j => .int (i + j)) := opI0 fun _ _ _ _ _ _ _ q => iadd_int q
theorem iop_sub : OpR X (inplaceOp .Sub) (rI0 fun i j => .int (i - j)) := opI0 fun _ _ _ _ _ _ _ q => isub_int q
theorem iop_mul : OpR X (inplaceOp .Mult) (rI CMul fun i j => .int (i * j)) := opI fun _ _ _ _ _ _ _ hc q => imul_int q hc.ok
theorem iop_fdiv : OpR X (inplaceOp .FloorDiv) (rI CDiv fun i j => .int (i / j)) := opI fun i j _ _ _ _ _ hc q => by
  have h1 : (0 : Int) < j := hc.1
  have h2 : j < 1073741824 := hc.2
  exact ifloordiv_int (by omega) (by rw [Int.fdiv_eq_ediv_of_nonneg i (by omega)]; exact q) (.inl (PyProof.noPylong_small (by omega)))
theorem iop_mod : OpR X (inplaceOp .Mod) (rI (fun _ j => 0 < j) fun i j => .int (i % j)) := opI fun i j _ _ _ _ _ hc q => by
  have h1 : (0 : Int) < j := hc
  exact imod_int (by omega) (by rw [Int.fmod_eq_emod_of_nonneg i (by omega)]; exact q)
theorem iop_shl : OpR X (inplaceOp .LShift) (rI CPow fun i j => .int (i * 2 ^ j.toNat)) := opI fun _ _ _ _ _ _ _ hc q => ilshift_int_small hc.1 hc.2.1 hc.2.2 q
theorem iop_shr : OpR X (inplaceOp .RShift) (rI (fun _ j => 0 ≤ j) fun i j => .int (i / 2 ^ j.toNat)) := opI fun i j _ _ _ _ _ hc q =>
  irshift_int hc (by rw [Int.fdiv_eq_ediv_of_nonneg i (two_pow_nn _)]; exact q)
theorem iop_and : OpR X (inplaceOp .BitAnd) (rI0 fun i j => .int (Builtin.bitAnd i j)) := opI0 fun _ _ _ _ _ _ _ q => iand_int q
theorem iop_or : OpR X (inplaceOp .BitOr) (rI0 fun i j => .int (Builtin.bitOr i j)) := opI0 fun _ _ _ _ _ _ _ q => ior_int q
theorem iop_xor : OpR X (inplaceOp .BitXor) (rI0 fun i j => .int (Builtin.bitXor i j)) := opI0 fun _ _ _ _ _ _ _ q => ixor_int q

theorem unI {f : Value → Sem Value} {g : Int → Int}
    (rule : ∀ (i : Int) (t : Tok) (s : Shared) (Q : Value → Shared → Prop) (E : Value → Shared → Prop), Q (.int (g i) s.toks) { s with toks := s.toks + 1 } → wpAny (model X.prog X.w) X.A (f (.int i t)) Q E s) :
    UnR X f (rU fun i => .int (g i)) := by
  intro pins s σ H x v Q I rx h
  obtain ⟨i, rfl, q⟩ := h
  obtain ⟨t, rfl⟩ := rx
  exact rule i t s _ _ ⟨.int (g i), H, I.tok _, ⟨_, rfl⟩, q⟩
theorem un_neg : UnR X (unaryOp .USub) (rU fun i => .int (-i)) := unI fun _ _ _ _ _ q => neg_int q
theorem un_inv : UnR X (unaryOp .Invert) (rU fun i => .int (Builtin.bitNot i)) := unI fun _ _ _ _ _ q => invert_int q

/-! ### bools among ints: n += (a < b) -/
theorem op_add_ib : OpR X (binaryOp .Add) (fun x y H Q => ∃ i k, x = .int i ∧ y = .bl k ∧ Q (.int (i + b2i k)) H) := by
  intro pins s σ H x y v u Q I rx ry h
  obtain ⟨i, k, rfl, rfl, q⟩ := h
  obtain ⟨t, rfl⟩ := rx
  cases ry
  exact add_int_bool ⟨.int (i + b2i k), H, I.tok _, ⟨_, rfl⟩, q⟩
end

/-! ### comparisons -/
/-- the scalars that == tells apart as data does -/
def scal : V → V → Bool
  | .non, .non => true | .non, .int _ => true | .int _, .non => true | .non, .bl _ => true | .bl _, .non => true | .non, .str _ => true | .str _, .non => true
  | .int _, .int _ => true | .bl _, .bl _ => true | .str _, .str _ => true | .byt _, .byt _ => true
  | .int _, .str _ => true | .str _, .int _ => true | .bl _, .str _ => true | .str _, .bl _ => true
  | _, _ => false
def rEq : R2 := fun x y H Q => scal x y = true ∧ Q (.bl (decide (x = y))) H
def rNe : R2 := fun x y H Q => scal x y = true ∧ Q (.bl (!decide (x = y))) H

theorem dec_int {i j : Int} : decide (V.int i = V.int j) = (i == j) := by
  rw [Bool.eq_iff_iff]
  simp
theorem dec_bl {i j : Bool} : decide (V.bl i = V.bl j) = (i == j) := by
  rw [Bool.eq_iff_iff]
  simp
theorem dec_str {i j : Str} : decide (V.str i = V.str j) = (i == j) := by
  rw [Bool.eq_iff_iff]
  simp
theorem dec_byt {i j : Array UInt8} : decide (V.byt i = V.byt j) = (i.toList == j.toList) := by
  rw [Bool.eq_iff_iff]
  cases i
  cases j
  simp

section
variable {X : Cx} {a b c : Expr} {ta tb tc : TE} {pos : Pos}
theorem fin_bl {pins : List (Addr × Obj)} {σ : St} {H : Hp} {s : Shared} {Q : VK} {k k' : Bool} (I : Inv X pins σ H s) (q : Q (.bl k) H) (e : k = k') : EP X pins σ Q (.bool k') s := by
  subst e
  exact ⟨.bl k, H, I, rfl, q⟩
theorem op_eq : OpR X (compareOp .Eq) rEq := by
  intro pins s σ H x y v u Q I rx ry h
  obtain ⟨hs, q⟩ := h
  cases x with
  | non =>
    cases rx
    cases y with
    | non => cases ry; exact PySem.EqNone.eq_none_none (fin_bl I q (by simp))
    | bl j => cases ry; exact PySem.EqNone.eq_none_bool (fin_bl I q (by simp))
    | int j => obtain ⟨t', rfl⟩ := ry; exact PySem.EqNone.eq_none_int (fin_bl I q (by simp))
    | str j => obtain ⟨t', rfl⟩ := ry; exact PySem.EqNone.eq_none_str (fin_bl I q (by simp))
    | _ => exact absurd (show false = true from hs) Bool.false_ne_true
  | bl i =>
    cases rx
    cases y with
    | non => cases ry; exact PySem.EqNone.eq_bool_none (fin_bl I q (by simp))
    | bl j => cases ry; exact eq_bool (fin_bl I q dec_bl)
    | str j => obtain ⟨t', rfl⟩ := ry; exact PySem.EqMixed.eq_bool_str (fin_bl I q (by simp))
    | _ => exact absurd (show false = true from hs) Bool.false_ne_true
  | int i =>
    obtain ⟨t, rfl⟩ := rx
    cases y with
    | non => cases ry; exact PySem.EqNone.eq_int_none (fin_bl I q (by simp))
    | int j => obtain ⟨t', rfl⟩ := ry; exact eq_int (fin_bl I q dec_int)
    | str j => obtain ⟨t', rfl⟩ := ry; exact PySem.EqMixed.eq_int_str (fin_bl I q (by simp))
    | _ => exact absurd (show false = true from hs) Bool.false_ne_true
  | str i =>
    obtain ⟨t, rfl⟩ := rx
    cases y with
    | non => cases ry; exact PySem.EqNone.eq_str_none (fin_bl I q (by simp))
    | bl j => cases ry; exact PySem.EqMixed.eq_str_bool (fin_bl I q (by simp))
    | int j => obtain ⟨t', rfl⟩ := ry; exact PySem.EqMixed.eq_str_int (fin_bl I q (by simp))
    | str j => obtain ⟨t', rfl⟩ := ry; exact eq_str (fin_bl I q dec_str)
    | _ => exact absurd (show false = true from hs) Bool.false_ne_true
  | byt i =>
    obtain ⟨t, rfl⟩ := rx
    cases y with
    | byt j => obtain ⟨t', rfl⟩ := ry; exact PySem.W.eq_bytes (fin_bl I q dec_byt)
    | _ => exact absurd (show false = true from hs) Bool.false_ne_true
  | _ => cases y <;> exact absurd (show false = true from hs) Bool.false_ne_true
theorem op_ne : OpR X (compareOp .NotEq) rNe := by
  intro pins s σ H x y v u Q I rx ry h
  obtain ⟨hs, q⟩ := h
  cases x with
  | non =>
    cases rx
    cases y with
    | non => cases ry; exact PySem.EqNone.ne_none_none (fin_bl I q (by simp))
    | bl j => cases ry; exact PySem.EqNone.ne_none_bool (fin_bl I q (by simp))
    | int j => obtain ⟨t', rfl⟩ := ry; exact PySem.EqNone.ne_none_int (fin_bl I q (by simp))
    | str j => obtain ⟨t', rfl⟩ := ry; exact PySem.EqNone.ne_none_str (fin_bl I q (by simp))
    | _ => exact absurd (show false = true from hs) Bool.false_ne_true
  | bl i =>
    cases rx
    cases y with
    | non => cases ry; exact PySem.EqNone.ne_bool_none (fin_bl I q (by simp))
    | bl j => cases ry; exact ne_bool (fin_bl I q (congrArg not dec_bl))
    | str j => obtain ⟨t', rfl⟩ := ry; exact PySem.EqMixed.ne_bool_str (fin_bl I q (by simp))
    | _ => exact absurd (show false = true from hs) Bool.false_ne_true
  | int i =>
    obtain ⟨t, rfl⟩ := rx
    cases y with
    | non => cases ry; exact PySem.EqNone.ne_int_none (fin_bl I q (by simp))
    | int j => obtain ⟨t', rfl⟩ := ry; exact ne_int (fin_bl I q (congrArg not dec_int))
    | str j => obtain ⟨t', rfl⟩ := ry; exact PySem.EqMixed.ne_int_str (fin_bl I q (by simp))
    | _ => exact absurd (show false = true from hs) Bool.false_ne_true
  | str i =>
    obtain ⟨t, rfl⟩ := rx
    cases y with
    | non => cases ry; exact PySem.EqNone.ne_str_none (fin_bl I q (by simp))
    | bl j => cases ry; exact PySem.EqMixed.ne_str_bool (fin_bl I q (by simp))
    | int j => obtain ⟨t', rfl⟩ := ry; exact PySem.EqMixed.ne_str_int (fin_bl I q (by simp))
    | str j => obtain ⟨t', rfl⟩ := ry; exact ne_str (fin_bl I q (congrArg not dec_str))
    | _ => exact absurd (show false = true from hs) Bool.false_ne_true
  | byt i =>
    obtain ⟨t, rfl⟩ := rx
    cases y with
    | byt j => obtain ⟨t', rfl⟩ := ry; exact PySem.W.ne_bytes (fin_bl I q (congrArg not dec_byt))
    | _ => exact absurd (show false = true from hs) Bool.false_ne_true
  | _ => cases y <;> exact absurd (show false = true from hs) Bool.false_ne_true

theorem op_lt : OpR X (compareOp .Lt) (rI0 fun i j => .bl (decide (i < j))) := opB0 fun _ _ _ _ _ _ _ q => lt_int q
theorem op_le : OpR X (compareOp .LtE) (rI0 fun i j => .bl (decide (i ≤ j))) := opB0 fun _ _ _ _ _ _ _ q => le_int q
theorem op_gt : OpR X (compareOp .Gt) (rI0 fun i j => .bl (decide (j < i))) := opB0 fun _ _ _ _ _ _ _ q => gt_int q
theorem op_ge : OpR X (compareOp .GtE) (rI0 fun i j => .bl (decide (j ≤ i))) := opB0 fun _ _ _ _ _ _ _ q => ge_int q
theorem op_lt_str : OpR X (compareOp .Lt) (fun x y H Q => ∃ i j, x = .str i ∧ y = .str j ∧ Q (.bl (decide (i.cps.toList < j.cps.toList))) H) := by
  intro pins s σ H x y v u Q I rx ry h
  obtain ⟨i, j, rfl, rfl, q⟩ := h
  obtain ⟨t, rfl⟩ := rx
  obtain ⟨t', rfl⟩ := ry
  exact lt_str (fin_bl I q rfl)
/-- the one string within the other -/
theorem op_in_str : OpR X (compareOp .In) (fun x y H Q => ∃ i j, x = .str i ∧ y = .str j ∧ Q (.bl (!(Builtin.Str.occurrences j i 0 j.length 1).isEmpty)) H) := by
  intro pins s σ H x y v u Q I rx ry h
  obtain ⟨i, j, rfl, rfl, q⟩ := h
  obtain ⟨t, rfl⟩ := rx
  obtain ⟨t', rfl⟩ := ry
  exact in_str (fin_bl I q rfl)

/-- is None, is not None: the right side a value none -/
theorem op_isN : OpR X (compareOp .Is) (fun x y H Q => y = .non ∧ Q (.bl (decide (x = .non))) H) := by
  intro pins s σ H x y v u Q I rx ry h
  obtain ⟨rfl, q⟩ := h
  cases ry
  refine is_none_gen (fin_bl I q ?_)
  cases x <;> first
    | (cases rx; rfl)
    | (obtain ⟨t, rfl⟩ := rx; rfl)
theorem op_notN : OpR X (compareOp .IsNot) (fun x y H Q => y = .non ∧ Q (.bl (!decide (x = .non))) H) := by
  intro pins s σ H x y v u Q I rx ry h
  obtain ⟨rfl, q⟩ := h
  cases ry
  refine isnot_none_gen (fin_bl I q ?_)
  cases x <;> first
    | (cases rx; rfl)
    | (obtain ⟨t, rfl⟩ := rx; rfl)

theorem op_notin_str : OpR X (compareOp .NotIn) (fun x y H Q => ∃ i j, x = .str i ∧ y = .str j ∧ Q (.bl (!(!(Builtin.Str.occurrences j i 0 j.length 1).isEmpty))) H) := by
  intro pins s σ H x y v u Q I rx ry h
  obtain ⟨i, j, rfl, rfl, q⟩ := h
  obtain ⟨t, rfl⟩ := rx
  obtain ⟨t', rfl⟩ := ry
  exact notIn_str (fin_bl I q rfl)
/-- is, is not of two objects that are tracked lists or instances -/
def isObj : HO → Bool
  | .lst _ => true
  | .ins _ _ _ => true
  | _ => false
theorem obj_there {pins : List (Addr × Obj)} {s : Shared} {σ : St} {H : Hp} {a : Addr} {o : HO} (I : Inv X pins σ H s) (h : H a = some o) (p : isObj o = true) : ∃ ob, s.heap.get? a = some ob ∧ ob.cls ≠ .type "tuple" := by
  cases o with
  | lst xs =>
    obtain ⟨_, its, n, _, e⟩ : xs.length ≤ sizeLine ∧ ∃ (its : List Value) (n : Nat), Vals xs its ∧ s.heap.get? a = some { cls := .type "list", data := .seq its.toArray n } := I.hok a _ h
    exact ⟨_, e, (by show Value.type "list" ≠ .type "tuple"; decide +kernel)⟩
  | ins C dx fs =>
    have x := I.hok a _ h
    obtain ⟨_, _, _, e, _⟩ := x
    exact ⟨_, e, (by show Value.ref C ≠ .type "tuple"; exact fun z => by cases z)⟩
  | _ => exact absurd (show false = true from p) Bool.false_ne_true
theorem op_is_ref : OpR X (compareOp .Is) (fun x y H Q => ∃ a b oa ob, x = .ref a ∧ y = .ref b ∧ H a = some oa ∧ isObj oa = true ∧ H b = some ob ∧ isObj ob = true ∧ Q (.bl (decide (a = b))) H) := by
  intro pins s σ H x y v u Q I rx ry h
  obtain ⟨a, b, oa, ob, rfl, rfl, ha, pa, hb, pb, q⟩ := h
  cases rx
  cases ry
  obtain ⟨o1, e1, n1⟩ := obj_there I ha pa
  obtain ⟨o2, e2, _⟩ := obj_there I hb pb
  by_cases z : a = b
  · subst z
    exact wpAny_is_ref_self (fin_bl I q (by simp))
  · exact wpAny_is_ref_other z e1 e2 n1 (fin_bl I q (by simp [z]))
theorem op_isnot_ref : OpR X (compareOp .IsNot) (fun x y H Q => ∃ a b oa ob, x = .ref a ∧ y = .ref b ∧ H a = some oa ∧ isObj oa = true ∧ H b = some ob ∧ isObj ob = true ∧ Q (.bl (!decide (a = b))) H) := by
  intro pins s σ H x y v u Q I rx ry h
  obtain ⟨a, b, oa, ob, rfl, rfl, ha, pa, hb, pb, q⟩ := h
  cases rx
  cases ry
  obtain ⟨o1, e1, n1⟩ := obj_there I ha pa
  obtain ⟨o2, e2, _⟩ := obj_there I hb pb
  by_cases z : a = b
  · subst z
    exact wpAny_isNot_ref_self (fin_bl I q (by simp))
  · exact wpAny_isNot_ref_other z e1 e2 n1 (fin_bl I q (by simp [z]))

/-- two rules for one operation: by cases -/
theorem OpR.or {f : Value → Value → Sem Value} {r r' : R2} (h : OpR X f r) (h' : OpR X f r') : OpR X f (fun x y H Q => r x y H Q ∨ r' x y H Q) := by
  intro pins s σ H x y v u Q I rx ry q
  rcases q with q | q
  · exact h pins s σ H x y v u Q I rx ry q
  · exact h' pins s σ H x y v u Q I rx ry q

theorem nomark (b : Expr) {op : CmpOp} (h : op ≠ .In := by decide) (h2 : op ≠ .NotIn := by decide) : behindInMarks op b = false := by
  have e1 : (op == CmpOp.In) = false := by cases op <;> first | rfl | exact absurd rfl h
  have e2 : (op == CmpOp.NotIn) = false := by cases op <;> first | rfl | exact absurd rfl h2
  cases b <;> simp [behindInMarks, e1, e2]
/-- a comparison as a value; hm: nomark b, or (for in, not in) by with_unfolding_all rfl -/
theorem pe_cmpR {op : CmpOp} {r : R2} (ho : OpR X (compareOp op) r) (ha : PE X a ta) (hb : PE X b tb) (hm : behindInMarks op b = false) : PE X (.Compare a [op] [b] pos) (tOp r ta tb) := by
  intro pins s σ H Q I h
  exact wpAny_Compare1 (binT ha hb I h fun v u s2 x y H2 I2 rx ry q => ho pins s2 σ H2 x y v u Q I2 rx ry q) hm
/-- a reading of a value as a test -/
def tTest (t : TE) : TT := fun σ H Q => t σ H fun x H' => ∃ k, x = .bl k ∧ Q k H'
theorem pt_cmpR {op : CmpOp} {r : R2} (ho : OpR X (compareOp op) r) (ha : PE X a ta) (hb : PE X b tb) (hm : behindInMarks op b = false) : PT X (.Compare a [op] [b] pos) (tTest (tOp r ta tb)) := by
  intro pins s σ H Q I h
  refine wpAny_isTrue_Compare1 (thn (ha pins s σ H _ I h) fun v s1 ⟨x, H1, I1, r1, q1⟩ => thn (hb pins s1 σ H1 _ I1 q1) fun u s2 ⟨y, H2, I2, r2, q2⟩ =>
    thn (ho pins s2 σ H2 x y v u _ I2 r1 r2 q2) fun c s3 ⟨z, H3, I3, r3, k, e, q3⟩ => ?_) hm
  subst e
  cases r3
  exact wpAny_truthy_bool ⟨H3, I3, q3⟩
/-- a op1 b op2 c -/
def tChain (r r' : R2) (ta tb tc : TE) : TE := fun σ H Q => ta σ H fun x H1 => tb σ H1 fun y H2 => r x y H2 fun z H3 => ∃ k, z = .bl k ∧
  (if k = true then tc σ H3 fun w' H4 => r' y w' H4 Q else Q (.bl false) H3)
theorem pe_chain {op op' : CmpOp} {r r' : R2} (ho : OpR X (compareOp op) r) (ho' : OpR X (compareOp op') r') (ha : PE X a ta) (hb : PE X b tb) (hc : PE X c tc)
    (hm : lastMarks [op, op'] [b, c] = false := by with_unfolding_all rfl) : PE X (.Compare a [op, op'] [b, c] pos) (tChain r r' ta tb tc) := by
  intro pins s σ H Q I h
  refine Compare_chain (thn (ha pins s σ H _ I h) fun v s1 ⟨x, H1, I1, r1, q1⟩ => chain_link (thn (hb pins s1 σ H1 _ I1 q1) fun u s2 ⟨y, H2, I2, r2, q2⟩ =>
    thn (ho pins s2 σ H2 x y v u _ I2 r1 r2 q2) fun d s3 ⟨z, H3, I3, r3, k, e, q3⟩ => ?_)) hm
  subst e
  cases r3
  refine wpAny_truthy_bool ?_
  cases k with
  | false => exact ite_ff ⟨.bl false, H3, I3, rfl, q3⟩
  | true => exact ite_tt (chain_last (thn (hc pins s3 σ H3 _ I3 q3) fun w' s4 ⟨z', H4, I4, r4, q4⟩ => ho' pins s4 σ H4 y z' u w' Q I4 r2 r4 q4))
theorem pt_chain {op op' : CmpOp} {r r' : R2} (ho : OpR X (compareOp op) r) (ho' : OpR X (compareOp op') r') (ha : PE X a ta) (hb : PE X b tb) (hc : PE X c tc)
    (hm : lastMarks [op, op'] [b, c] = false := by with_unfolding_all rfl) : PT X (.Compare a [op, op'] [b, c] pos) (tTest (tChain r r' ta tb tc)) := by
  intro pins s σ H Q I h
  refine isTrue_chain (thn (ha pins s σ H _ I h) fun v s1 ⟨x, H1, I1, r1, q1⟩ => test_link (thn (hb pins s1 σ H1 _ I1 q1) fun u s2 ⟨y, H2, I2, r2, q2⟩ =>
    thn (ho pins s2 σ H2 x y v u _ I2 r1 r2 q2) fun d s3 ⟨z, H3, I3, r3, k, e, q3⟩ => ?_)) hm
  subst e
  cases r3
  refine wpAny_truthy_bool ?_
  cases k with
  | false =>
    obtain ⟨k', e', q'⟩ := q3
    cases e'
    exact ite_ff ⟨H3, I3, q'⟩
  | true =>
    refine ite_tt (test_last (thn (hc pins s3 σ H3 _ I3 q3) fun w' s4 ⟨z', H4, I4, r4, q4⟩ => thn (ho' pins s4 σ H4 y z' u w' _ I4 r2 r4 q4) fun d' s5 ⟨z2, H5, I5, r5, k2, e2, q5⟩ => ?_))
    subst e2
    cases r5
    exact wpAny_truthy_bool ⟨H5, I5, q5⟩

/-! ### truth -/
/-- a value's truth by the abstract heap -/
def TruV (K : PySem.W.Frag) (x : V) (H : Hp) (k : Bool) : Prop :=
  match x with
  | .non => k = false
  | .bl b => k = b
  | .int i => k = (i != 0)
  | .str y => y.length ≤ sizeLine ∧ k = ((y.length : Int) != 0)
  | .byt y => y.size ≤ sizeLine ∧ k = ((y.size : Int) != 0)
  | .ref p => (∃ xs, SqL K H p xs ∧ k = !xs.isEmpty) ∨ (∃ xs, SqT K H p xs ∧ k = !xs.isEmpty) ∨ ∃ kvs, H p = some (.dK kvs) ∧ k = !kvs.isEmpty
  | _ => False
theorem isEmpty_kv {κ : Type} {kvs : List (κ × V)} {vs : List (κ × Value)} (r : KV kvs vs) : (!vs.isEmpty) = !kvs.isEmpty := by
  cases r <;> rfl
theorem isEmpty_of {xs : List V} {its : List Value} (r : Vals xs its) : (!its.toArray.isEmpty) = !xs.isEmpty := by
  cases r <;> simp
theorem line63 : (sizeLine : Nat) < 2 ^ 63 := by rw [sizeLine_eq]; decide
theorem tru_ok : TruR X (fun x H Q => ∃ k, TruV X.K x H k ∧ Q k H) := by
  intro pins s σ H x v Q I rx h
  obtain ⟨k, e, q⟩ := h
  have hl := line63
  have hs : sizeLine = 16777216 := sizeLine_eq
  cases x with
  | non =>
    cases rx
    have e' : k = false := e
    subst e'
    exact truthy_none ⟨H, I, q⟩
  | bl b =>
    cases rx
    have e' : k = b := e
    subst e'
    exact wpAny_truthy_bool ⟨H, I, q⟩
  | int i =>
    obtain ⟨t, rfl⟩ := rx
    have e' : k = (i != 0) := e
    subst e'
    exact PySem.P.truthy_int ⟨H, I, q⟩
  | str y =>
    obtain ⟨t, rfl⟩ := rx
    obtain ⟨hy, e'⟩ : y.length ≤ sizeLine ∧ k = ((y.length : Int) != 0) := e
    subst e'
    exact PySem.P.truthy_str (by omega) ⟨H, I.tok _, q⟩
  | byt y =>
    obtain ⟨t, rfl⟩ := rx
    obtain ⟨hy, e'⟩ : y.size ≤ sizeLine ∧ k = ((y.size : Int) != 0) := e
    subst e'
    exact PySem.W.truthy_bytes (by omega) ⟨H, I.tok _, q⟩
  | ref p =>
    cases rx
    have e' : (∃ xs, SqL X.K H p xs ∧ k = !xs.isEmpty) ∨ (∃ xs, SqT X.K H p xs ∧ k = !xs.isEmpty) ∨ ∃ kvs, H p = some (.dK kvs) ∧ k = !kvs.isEmpty := e
    rcases e' with ⟨xs, hx, e'⟩ | ⟨xs, hx, e'⟩ | ⟨kvs, hx, e'⟩
    · subst e'
      obtain ⟨its, r, pl, hz⟩ := I.list hx
      have hlen := r.length
      exact wpAny_truthy_list pl.isList (by simp only [List.size_toArray]; omega) ⟨H, I.tok _, by rw [isEmpty_of r]; exact q⟩
    · subst e'
      obtain ⟨its, r, pl, hz⟩ := I.tuple hx
      have hlen := r.length
      exact truthy_tuple pl (by simp only [List.size_toArray]; omega) ⟨H, I.tok _, by rw [isEmpty_of r]; exact q⟩
    · subst e'
      obtain ⟨hz, hS, vs, r, m⟩ : kvs.length ≤ sizeLine ∧ (p == sysModules) = false ∧ ∃ vs, KV kvs vs ∧ s.heap.DictOf (mixKind X.prog X.w) p vs := I.hok p _ hx
      have hlen : kvs.length = vs.length := Paired.length r
      exact wpAny_truthy_dict hS m (by omega) ⟨H, I.tok _, by rw [isEmpty_kv r]; exact q⟩
  | _ => exact (show False from e).elim
/-- any expression whose test is its value's truth (a name, a call, a subscript, a field ..: he by fun _ => rfl) -/
theorem pt_truth (ha : PE X a ta) (he : ∀ whole, isTrue a X.env whole = (do let v ← whole; standAt a.pos; holding [v] (truthy v))) :
    PT X a (fun σ H Q => ta σ H fun x H' => ∃ k, TruV X.K x H' k ∧ Q k H') := by
  intro pins s σ H Q I h
  exact isTrue_plain (thn (ha pins s σ H _ I h) fun v s1 ⟨x, H1, I1, r1, q1⟩ => tru_ok pins s1 σ H1 x v Q I1 r1 q1) (he _)

/-! ### strs and bytes -/
theorem pe_byt {x : List UInt8} {k : Nat} : PE X (.Constant (.bytes x) k pos) (fun _ H Q => Q (.byt x.toArray) H) := fun _ _ _ H _ I h => PySem.W.Constant_bytes ⟨.byt x.toArray, H, I.tok _, ⟨_, rfl⟩, h⟩
theorem op_add_str : OpR X (binaryOp .Add) (fun x y H Q => ∃ i j, x = .str i ∧ y = .str j ∧ i.length + j.length ≤ sizeLine ∧ Q (.str (i ++ j)) H) := by
  intro pins s σ H x y v u Q I rx ry h
  obtain ⟨i, j, rfl, rfl, hz, q⟩ := h
  obtain ⟨t, rfl⟩ := rx
  obtain ⟨t', rfl⟩ := ry
  exact add_str (fun t' tk => ⟨.str (i ++ j), H, I.tok _, ⟨_, rfl⟩, q⟩) hz
theorem iop_add_str : OpR X (inplaceOp .Add) (fun x y H Q => ∃ i j, x = .str i ∧ y = .str j ∧ i.length + j.length ≤ sizeLine ∧ Q (.str (i ++ j)) H) := by
  intro pins s σ H x y v u Q I rx ry h
  obtain ⟨i, j, rfl, rfl, hz, q⟩ := h
  obtain ⟨t, rfl⟩ := rx
  obtain ⟨t', rfl⟩ := ry
  exact iadd_str (fun t' tk => ⟨.str (i ++ j), H, I.tok _, ⟨_, rfl⟩, q⟩) hz
theorem op_add_byt : OpR X (binaryOp .Add) (fun x y H Q => ∃ i j, x = .byt i ∧ y = .byt j ∧ i.size + j.size ≤ 16777216 ∧ Q (.byt (i ++ j)) H) := by
  intro pins s σ H x y v u Q I rx ry h
  obtain ⟨i, j, rfl, rfl, hz, q⟩ := h
  obtain ⟨t, rfl⟩ := rx
  obtain ⟨t', rfl⟩ := ry
  exact PySem.W.KBy.add_bytes hz (fun t' tk => ⟨.byt (i ++ j), H, I.tok _, ⟨_, rfl⟩, q⟩)

def PlainIxT (b : Expr) : Prop := ∀ o i, subscripted b false o i = operate [o, i] (getItem o i)
/-- s[i], 0 ≤ i < len -/
theorem pe_item_str (ha : PE X a ta) (hb : PE X b tb) (hs : PlainIxT b) :
    PE X (.Subscript a b pos) (tOp (fun x y H Q => ∃ z i c, x = .str z ∧ y = .int i ∧ 0 ≤ i ∧ i < 2 ^ 63 ∧ i < z.length ∧ z.cps[i.toNat]? = some c ∧ Q (.str ⟨#[c]⟩) H) ta tb) := by
  intro pins s σ H Q I h
  refine Subscript_ (binT ha hb I h fun v u s2 x y H2 I2 rx ry q => ?_)
  obtain ⟨z, i, c, rfl, rfl, h0, h63, h1, hc, q⟩ := q
  obtain ⟨t, rfl⟩ := rx
  obtain ⟨t', rfl⟩ := ry
  have e : seqIndex? i z.length = some i.toNat := PySem.StrLaws.seqIndex_nonneg h0 h1
  exact tail_any (typeIs_str s2 z t) slot_str_getitem.lookup (getItem_str (c := c) (by
    have e1 : decide (i < -(2 ^ 63 : Int)) = false := decide_eq_false (by omega)
    have e2 : decide (i ≥ 2 ^ 63) = false := decide_eq_false (by omega)
    rw [e1, e2] <;> rfl) (by rw [e]; exact hc) ⟨.str ⟨#[c]⟩, H2, I2.tok _, ⟨_, rfl⟩, q⟩) (hs _ _)
/-- b[i], 0 ≤ i < len -/
theorem pe_item_byt (ha : PE X a ta) (hb : PE X b tb) (hs : PlainIxT b) :
    PE X (.Subscript a b pos) (tOp (fun x y H Q => ∃ (z : List UInt8) (i : Int), x = .byt z.toArray ∧ y = .int i ∧ z.length ≤ sizeLine ∧ 0 ≤ i ∧ i < z.length ∧ Q (.int ((z.getD i.toNat 0).toNat : Nat)) H) ta tb) := by
  intro pins s σ H Q I h
  refine Subscript_ (binT ha hb I h fun v u s2 x y H2 I2 rx ry q => ?_)
  obtain ⟨z, i, rfl, rfl, hz, h0, h1, q⟩ := q
  obtain ⟨t, rfl⟩ := rx
  obtain ⟨t', rfl⟩ := ry
  have hl : sizeLine = 16777216 := sizeLine_eq
  exact tail_any (PySem.W.typeIs_bytes s2 z.toArray t) PySem.W.FB.slot_bytes_getitem.lookup (PySem.W.getItem_bytes (by omega) h0 h1 ⟨.int ((z.getD i.toNat 0).toNat : Nat), H2, I2.tok _, ⟨_, rfl⟩, q⟩) (hs _ _)

/-! ### scalar builtins, by CallR -/
theorem vals1 {x : V} {us : List Value} (r : Vals [x] us) : ∃ u, us = [u] ∧ RelV x u := by
  cases r with
  | cons r1 r2 => cases r2; exact ⟨_, rfl, r1⟩
theorem vals2 {x y : V} {us : List Value} (r : Vals [x, y] us) : ∃ u w', us = [u, w'] ∧ RelV x u ∧ RelV y w' := by
  cases r with
  | cons r1 r2 =>
    cases r2 with
    | cons r3 r4 => cases r4; exact ⟨_, _, rfl, r1, r3⟩
theorem call_abs : CallR X (.builtin "abs") (fun xs H Q => ∃ i, xs = [.int i] ∧ Q (.int (if i < 0 then -i else i)) H) := by
  intro pins s σ H xs us Q I r h
  obtain ⟨i, rfl, q⟩ := h
  obtain ⟨u, rfl, t, rfl⟩ := vals1 r
  exact call_abs_int fun u tk => ⟨.int (if i < 0 then -i else i), H, I.tok _, ⟨_, rfl⟩, q⟩
theorem call_max2 (hc : X.calm = true) : CallR X (.builtin "max") (fun xs H Q => ∃ i j, xs = [.int i, .int j] ∧ Q (.int (if j > i then j else i)) H) := by
  intro pins s σ H xs us Q I r h
  obtain ⟨i, j, rfl, q⟩ := h
  obtain ⟨u, w', rfl, ⟨t, rfl⟩, ⟨t', rfl⟩⟩ := vals2 r
  refine max_two_ints (I.ok.hd hc) fun h' tk k => ⟨_, H, I.kept k, ?_, q⟩
  by_cases hj : j > i
  · rw [if_pos hj, if_pos hj]; exact ⟨_, rfl⟩
  · rw [if_neg hj, if_neg hj]; exact ⟨_, rfl⟩
theorem call_min2 (hc : X.calm = true) : CallR X (.builtin "min") (fun xs H Q => ∃ i j, xs = [.int i, .int j] ∧ Q (.int (if j < i then j else i)) H) := by
  intro pins s σ H xs us Q I r h
  obtain ⟨i, j, rfl, q⟩ := h
  obtain ⟨u, w', rfl, ⟨t, rfl⟩, ⟨t', rfl⟩⟩ := vals2 r
  refine min_two_ints (I.ok.hd hc) fun h' tk k => ⟨_, H, I.kept k, ?_, q⟩
  by_cases hj : j < i
  · rw [if_pos hj, if_pos hj]; exact ⟨_, rfl⟩
  · rw [if_neg hj, if_neg hj]; exact ⟨_, rfl⟩
theorem call_int1 : CallR X (.type "int") (fun xs H Q => (∃ i, xs = [.int i] ∧ Q (.int i) H) ∨ ∃ k, xs = [.bl k] ∧ Q (.int (if k then 1 else 0)) H) := by
  intro pins s σ H xs us Q I r h
  rcases h with ⟨i, rfl, q⟩ | ⟨k, rfl, q⟩
  · obtain ⟨u, rfl, t, rfl⟩ := vals1 r
    exact call_int_int ⟨.int i, H, I, ⟨_, rfl⟩, q⟩
  · obtain ⟨u, rfl, r1⟩ := vals1 r
    cases r1
    exact call_int_bool ⟨.int (if k then 1 else 0), H, I.tok _, ⟨_, rfl⟩, q⟩
theorem call_bool1 : CallR X (.type "bool") (fun xs H Q => (∃ i, xs = [.int i] ∧ Q (.bl (i != 0)) H) ∨ ∃ k, xs = [.bl k] ∧ Q (.bl k) H) := by
  intro pins s σ H xs us Q I r h
  rcases h with ⟨i, rfl, q⟩ | ⟨k, rfl, q⟩
  · obtain ⟨u, rfl, t, rfl⟩ := vals1 r
    exact call_bool_int ⟨.bl (i != 0), H, I, rfl, q⟩
  · obtain ⟨u, rfl, r1⟩ := vals1 r
    cases r1
    exact call_bool_bool ⟨.bl k, H, I, rfl, q⟩
theorem call_str_int : CallR X (.type "str") (fun xs H Q => ∃ i, xs = [.int i] ∧ i.natAbs.log2 < 1920 ∧ Q (.str (toString i)) H) := by
  intro pins s σ H xs us Q I r h
  obtain ⟨i, rfl, hz, q⟩ := h
  obtain ⟨u, rfl, t, rfl⟩ := vals1 r
  exact PySem.P.str_of_int hz ⟨.str _, H, I.tok _, ⟨_, rfl⟩, q⟩
theorem call_ord : CallR X (.builtin "ord") (fun xs H Q => ∃ x, xs = [.str x] ∧ x.length = 1 ∧ Q (.int (x.cps.getD 0 0 : Nat)) H) := by
  intro pins s σ H xs us Q I r h
  obtain ⟨x, rfl, hz, q⟩ := h
  obtain ⟨u, rfl, t, rfl⟩ := vals1 r
  exact ord_of_one hz ⟨.int _, H, I.tok _, ⟨_, rfl⟩, q⟩
theorem call_chr : CallR X (.builtin "chr") (fun xs H Q => ∃ i, xs = [.int i] ∧ 0 ≤ i ∧ i ≤ 1114111 ∧ Q (.str ⟨#[i.toNat]⟩) H) := by
  intro pins s σ H xs us Q I r h
  obtain ⟨i, rfl, h0, h1, q⟩ := h
  obtain ⟨u, rfl, t, rfl⟩ := vals1 r
  exact chr_of_range h0 h1 ⟨.str _, H, I.tok _, ⟨_, rfl⟩, q⟩
/-- len of a str, a bytes, a list, a tuple -/
def LenV (K : PySem.W.Frag) (x : V) (H : Hp) (n : Nat) : Prop :=
  match x with
  | .str y => y.length ≤ sizeLine ∧ n = y.length
  | .byt y => y.size ≤ sizeLine ∧ n = y.size
  | .ref p => (∃ xs, SqL K H p xs ∧ n = xs.length) ∨ ∃ xs, SqT K H p xs ∧ n = xs.length
  | _ => False
theorem call_len : CallR X (.builtin "len") (fun xs H Q => ∃ x n, xs = [x] ∧ LenV X.K x H n ∧ Q (.int n) H) := by
  intro pins s σ H xs us Q I r h
  obtain ⟨x, n, rfl, e, q⟩ := h
  obtain ⟨u, rfl, rx⟩ := vals1 r
  have hl := line63
  have hs : sizeLine = 16777216 := sizeLine_eq
  cases x with
  | str y =>
    obtain ⟨t, rfl⟩ := rx
    obtain ⟨hy, e'⟩ : y.length ≤ sizeLine ∧ n = y.length := e
    subst e'
    exact len_str (by omega) ⟨.int _, H, I.tok _, ⟨_, rfl⟩, q⟩
  | byt y =>
    obtain ⟨t, rfl⟩ := rx
    obtain ⟨hy, e'⟩ : y.size ≤ sizeLine ∧ n = y.size := e
    subst e'
    exact PySem.W.len_bytes (by omega) ⟨.int _, H, I.tok _, ⟨_, rfl⟩, q⟩
  | ref p =>
    cases rx
    have e' : (∃ xs, SqL X.K H p xs ∧ n = xs.length) ∨ ∃ xs, SqT X.K H p xs ∧ n = xs.length := e
    rcases e' with ⟨xs, hx, e'⟩ | ⟨xs, hx, e'⟩
    · subst e'
      obtain ⟨its, r', pl, hz⟩ := I.list hx
      have hlen := r'.length
      exact Calls.call_len_list pl.isList (by simp only [List.size_toArray]; omega) ⟨.int xs.length, H, I.tok _, ⟨_, by simp only [List.size_toArray]; rw [hlen]⟩, q⟩
    · subst e'
      obtain ⟨its, r', pl, hz⟩ := I.tuple hx
      have hlen := r'.length
      exact len_tuple pl (by simp only [List.size_toArray]; omega) ⟨.int xs.length, H, I.tok _, ⟨_, by simp only [List.size_toArray]; rw [hlen]⟩, q⟩
  | _ => exact (show False from e).elim
/-- divmod: a new tuple -/
theorem call_divmod : CallR X (.builtin "divmod") (fun xs H Q => ∃ i j, xs = [.int i, .int j] ∧ CDiv i j ∧ ∀ p, H p = none → Q (.ref p) (upd H p (.tup [.int (i / j), .int (i % j)]))) := by
  intro pins s σ H xs us Q I r h
  obtain ⟨i, j, rfl, ⟨h1, h2⟩, q⟩ := h
  obtain ⟨u, w', rfl, ⟨t, rfl⟩, ⟨t', rfl⟩⟩ := vals2 r
  refine divmod_int (by omega) ?_ (.inl (PyProof.noPylong_small (by omega)))
  rw [Int.fdiv_eq_ediv_of_nonneg i (by omega), Int.fmod_eq_emod_of_nonneg i (by omega)]
  have hn : H s.heap.objs.size = none := I.hok.fresh (Nat.le_refl _)
  refine ⟨.ref s.heap.objs.size, _, ?_, rfl, q _ hn⟩
  refine I.laid (fun b o e => Heap.get?_push_of_some _ e) (Nat.le_refl _) ⟨by simp only [List.length_cons, List.length_nil]; rw [sizeLine_eq]; decide, [.int (i / j) s.toks, .int (i % j) (s.toks + 1)], .cons ⟨_, rfl⟩ (.cons ⟨_, rfl⟩ .nil), ?_⟩
  exact ⟨_, Heap.get?_push_size s.heap rfl, rfl, 0, rfl⟩
end
end L2

namespace L2
open PySem PySem.Spec PyProof.Rows

/-! ### an instance, its attributes a map -/
structure ObjM (h : Heap) (x dx C : Addr) (mA : Str → Option Value) : Prop where
  obj : h.get? x = some (PySem.W.instObj C dx)
  ns : h.Ns1 dx mA
  ne : dx ≠ x

theorem lookIn_ns {h : Heap} {dx : Addr} {mA : Str → Option Value} (n : h.Ns1 dx mA) : ∃ od, h.get? dx = some od ∧ ∀ name, PySem.W.lookIn name od = some (mA name) := by
  obtain ⟨o, es, ep, ho, hd, hk, _, hm⟩ := n
  refine ⟨o, ho, fun name => ?_⟩
  have e := hm name
  unfold nsFind findBy at e
  rw [← Array.find?_toList] at e
  unfold PySem.W.lookIn
  rw [hd]
  dsimp only
  split
  · rename_i y q
    rw [q] at e
    exact congrArg some e
  · rename_i q
    rw [q] at e
    have a : es.toList.any (·.refKey) = false := by
      rw [List.any_eq_false]
      intro y hy
      obtain ⟨z, t, hkey⟩ := hk y (Array.mem_toList_iff.mp hy)
      simp [DictEntry.refKey, hkey]
    have a' : ¬ es.toList.any (·.refKey) = true := by rw [a]; exact Bool.false_ne_true
    rw [if_neg a']
    exact congrArg some e

theorem ObjM.look {h : Heap} {x dx C : Addr} {mA : Str → Option Value} (I : ObjM h x dx C mA) : ∃ od, PySem.W.InstAt h x (PySem.W.instObj C dx) C (some od) ∧ ∀ name, PySem.W.lookIn name od = some (mA name) :=
  let ⟨od, ho, hl⟩ := lookIn_ns I.ns
  ⟨od, ⟨I.obj, rfl, rfl, ho⟩, hl⟩

section
variable {prog : Program} {w : World} {A : Around} {E : Value → Shared → Prop} {s : Shared} {K : PySem.W.Frag} {x dx C f : Addr} {mA : Str → Option Value} {name : Str} {v : Value}

theorem get_map {expr : Bool} {Q : Value → Shared → Prop} (X : K.In s.heap) (I : ObjM s.heap x dx C mA) (hg : PySem.W.plainGet K C name = true) (hh : PySem.W.hasDictIn K C = true)
    (ha : PySem.W.findIn K (.ref C) name = some none) (hv : mA name = some v) (hv' : PySem.W.handedIn v = true) (h : Q v { s with toks := s.toks + 1 }) :
    wpAny (model prog w) A (getAttr (.ref x) name expr) Q E s := by
  obtain ⟨od, J, hl⟩ := I.look
  exact PySem.W.get_value X J (PySem.W.plainGet_of hg).1 (PySem.W.findObj_own hh ha rfl (by rw [hl, hv])) hv' h

theorem get_const {expr : Bool} {a : Value} {Q : Value → Shared → Prop} (X : K.In s.heap) (I : ObjM s.heap x dx C mA) (hg : PySem.W.plainGet K C name = true) (hh : PySem.W.hasDictIn K C = true)
    (ha : PySem.W.findIn K (.ref C) name = some (some a)) (hn : PySem.W.specialIn K a "__get__" = some none) (hc : PySem.W.copiedNames.contains name = false) (hv : mA name = none) (hv' : PySem.W.handedIn a = true)
    (h : Q a { s with toks := s.toks + 1 }) : wpAny (model prog w) A (getAttr (.ref x) name expr) Q E s := by
  obtain ⟨od, J, hl⟩ := I.look
  exact PySem.W.get_value X J (PySem.W.plainGet_of hg).1 (PySem.W.findObj_cls hh ha hn hv' hc (by rw [hl, hv])) hv' h

theorem get_meth {pl : Sem Bool} {Q : Value × List Value → Shared → Prop} (X : K.In s.heap) (I : ObjM s.heap x dx C mA) (hg : PySem.W.plainGet K C name = true)
    (hf : PySem.W.findIn K (.ref C) name = some (some (.ref f))) (ht : PySem.W.isFn K (.ref f) = true) (hv : mA name = none) (h : Q (.ref f, [.ref x]) s) :
    wpAny (model prog w) A (getMethod (.ref x) name pl) Q E s := by
  obtain ⟨od, J, hl⟩ := I.look
  exact PySem.W.method_fn X J (PySem.W.plainGet_of hg).1 (PySem.W.plainGet_of hg).2 hf (beq_iff_eq.mp ht) (by show (PySem.W.lookIn name od).map (·.isSome) = some false; rw [hl, hv]; rfl) h

theorem set_map {ns : List Str} {Q : Unit → Shared → Prop} (X : K.In s.heap) (I : ObjM s.heap x dx C mA)
    (hs : PySem.W.findIn K (.ref C) "__setattr__" = some (some (.builtin "object.__setattr__"))) (hp : PySem.W.plainOver K C = true) (ht : PySem.W.takerIn K C name = some none) (hh : PySem.W.hasDictIn K C = true)
    (hw : PySem.Within mA ns) (hsz : ns.length ≤ sizeLine)
    (h : ∀ h', ObjM h' x dx C (fun y => if y = name then some v else mA y) → Heap.SameBut dx s.heap h' → Q () { s with heap := h', toks := s.toks + 2 }) :
    wpAny (model prog w) A (setAttr (.ref x) name v) Q E s := by
  obtain ⟨od, J, hl⟩ := I.look
  refine PySem.W.set_plain X J hs (PySem.W.osa_open (s := { s with toks := s.toks + 1 }) (r := none) X J hp ht fun b => ?_)
  obtain ⟨cd, hc, hd'⟩ := PySem.W.any_some hh
  have hx : s.heap.get? x = some ⟨.ref C, some dx, .plain, #[]⟩ := I.obj
  refine wpAny_bind (wpAny_pure (wpAny_bind (wpAny_bind (wpAny_loadPart hx (wpAny_bind (PySem.W.Looks.here (s := { s with toks := s.toks + 1 }) (PySem.W.looks_clsIn X hc) ?_))))))
  rw [hd']
  refine wpAny_pure (a := some dx) (wpAny_bind (wpAny_pure (wpAny_bind ?_)))
  refine wpAny_nsSet1 (s := { s with toks := s.toks + 1 }) I.ns fun h' hn2 hs2 => ?_
  obtain ⟨oD, esD, epD, hoD, hdD, hcD⟩ := hn2.count (PySem.Within.cons name v hw)
  refine wpAny_bind (wpAny_lookBehind hoD (by rw [hdD]; exact pastItsLine_dict (Nat.le_trans hcD (by rw [List.length_cons]; omega))) ?_)
  exact wpAny_pure (h _ ⟨(hs2.2 _ (Ne.symm I.ne)).trans I.obj, hn2, I.ne⟩ hs2)

/-- C(..): the dict at the heap's end, the instance behind it; then its __init__ -/
theorem make_map {R : Result → Shared → Prop} {vs : List Value} {kw : List (Str × Value)} (X : K.In s.heap) (hm : PySem.W.makesIn K C = true)
    (hi : PySem.W.findIn K (.ref C) "__init__" = some (some (.ref f))) (hf : PySem.W.typeIn K (.ref f) = some (.type "function"))
    (h : codeAny (model prog w) (A.under (.builtin "type.__call__" ⟨.ref C :: vs, kw⟩)) (.call (.ref f) ⟨.ref (s.heap.objs.size + 1) :: vs, kw⟩) (PySem.W.InitBack (s.heap.objs.size + 1) R)
      { s with heap := (s.heap.push PySem.W.emptyDict).push (PySem.W.instObj C s.heap.objs.size) }) :
    codeAny (model prog w) A (.call (.ref C) ⟨vs, kw⟩) R s := by
  obtain ⟨hh, g, d, t, os⟩ := s
  exact PySem.W.make_core (PySem.W.makes_of X hm) (PySem.W.looks_findIn X hi) (fun self => PySem.W.bind_fn X self hf) (.inl rfl) h
/-- C() where there is no __init__ but object's -/
theorem make_map0 {R : Result → Shared → Prop} (X : K.In s.heap) (hm : PySem.W.makesIn K C = true)
    (hi : PySem.W.findIn K (.ref C) "__init__" = some (some (.builtin "object.__init__")))
    (hb : ∀ self, PySem.W.Looks (model prog w) s.heap (bindSpecial (.builtin "object.__init__") self) (.builtin "object.__init__", [self]))
    (h : codeAny (model prog w) (A.under (.builtin "type.__call__" ⟨[.ref C], []⟩)) (.call (.builtin "object.__init__") ⟨[.ref (s.heap.objs.size + 1)], []⟩) (PySem.W.InitBack (s.heap.objs.size + 1) R)
      { s with heap := (s.heap.push PySem.W.emptyDict).push (PySem.W.instObj C s.heap.objs.size) }) :
    codeAny (model prog w) A (.call (.ref C) ⟨[], []⟩) R s := by
  obtain ⟨hh, g, d, t, os⟩ := s
  exact PySem.W.make_core (PySem.W.makes_of X hm) (PySem.W.looks_findIn X hi) hb (.inr ⟨rfl, rfl⟩) h
end

/-! ### the attributes as a list of pairs -/
def putF (f : Str) (v : V) : List (Str × V) → List (Str × V)
  | [] => [(f, v)]
  | (g, x) :: r => if g = f then (g, v) :: r else (g, x) :: putF f v r
theorem lookup_putF (f g : Str) (v : V) : ∀ fs : List (Str × V), (putF f v fs).lookup g = if g = f then some v else fs.lookup g
  | [] => by
    show List.lookup g [(f, v)] = _
    by_cases h : g = f
    · have hb : (g == f) = true := beq_iff_eq.mpr h
      simp only [List.lookup, hb, if_pos h]
    · have hb : (g == f) = false := beq_eq_false_iff_ne.mpr h
      simp only [List.lookup, hb, if_neg h]
  | (k, x) :: r => by
    have ih := lookup_putF f g v r
    rw [show putF f v ((k, x) :: r) = (if k = f then (k, v) :: r else (k, x) :: putF f v r) from rfl]
    by_cases hk : k = f
    · rw [if_pos hk]
      by_cases h : g = k
      · have hb : (g == k) = true := beq_iff_eq.mpr h
        simp only [List.lookup, hb, if_pos (h.trans hk)]
      · have hb : (g == k) = false := beq_eq_false_iff_ne.mpr h
        simp only [List.lookup, hb, if_neg (fun e : g = f => h (e.trans hk.symm))]
    · rw [if_neg hk]
      by_cases h : g = k
      · have hb : (g == k) = true := beq_iff_eq.mpr h
        simp only [List.lookup, hb, if_neg (fun e : g = f => hk (h.symm.trans e))]
      · have hb : (g == k) = false := beq_eq_false_iff_ne.mpr h
        simp only [List.lookup, hb]
        exact ih
theorem keys_putF (f : Str) (v : V) : ∀ fs : List (Str × V), f ∈ (putF f v fs).map (·.1) ∧ ∀ g, g ∈ fs.map (·.1) → g ∈ (putF f v fs).map (·.1)
  | [] => ⟨by simp [putF], fun g h => by simp at h⟩
  | (k, x) :: r => by
    obtain ⟨i1, i2⟩ := keys_putF f v r
    rw [show putF f v ((k, x) :: r) = (if k = f then (k, v) :: r else (k, x) :: putF f v r) from rfl]
    by_cases hk : k = f
    · rw [if_pos hk]
      subst hk
      exact ⟨by simp, fun g h => by simpa using h⟩
    · rw [if_neg hk]
      refine ⟨?_, fun g h => ?_⟩
      · rw [List.map_cons]
        exact List.mem_cons_of_mem _ i1
      · rw [List.map_cons] at h ⊢
        rcases List.mem_cons.mp h with e | e
        · exact List.mem_cons.mpr (.inl e)
        · exact List.mem_cons_of_mem _ (i2 g e)
theorem length_putF (f : Str) (v : V) : ∀ fs : List (Str × V), (putF f v fs).length ≤ fs.length + 1
  | [] => by simp [putF]
  | (k, x) :: r => by
    have ih := length_putF f v r
    rw [show putF f v ((k, x) :: r) = (if k = f then (k, v) :: r else (k, x) :: putF f v r) from rfl]
    by_cases hk : k = f
    · rw [if_pos hk, List.length_cons, List.length_cons]; omega
    · rw [if_neg hk, List.length_cons, List.length_cons]; omega

theorem RelO.some_of {v : V} {o : Option Value} (r : RelO (some v) o) : ∃ u, o = some u ∧ RelV v u := by
  cases o with
  | none => exact (show False from r).elim
  | some u => exact ⟨u, rfl, r⟩
theorem RelO.none_of {o : Option Value} (r : RelO none o) : o = none := by
  cases o with
  | none => rfl
  | some u => exact (show False from r).elim
theorem handed_of {v : V} {u : Value} (r : RelV v u) : PySem.W.handedIn u = true := by
  cases v with
  | non => cases (show u = Value.none from r); rfl
  | bl b => cases (show u = Value.bool b from r); rfl
  | int i => obtain ⟨t, e⟩ := (show ∃ t, u = Value.int i t from r); cases e; rfl
  | str x => obtain ⟨t, e⟩ := (show ∃ t, u = Value.str x t from r); cases e; rfl
  | byt b => obtain ⟨t, e⟩ := (show ∃ t, u = Value.bytes b t from r); cases e; rfl
  | flt b => obtain ⟨t, e⟩ := (show ∃ t, u = Value.float b t from r); cases e; rfl
  | ref a => cases (show u = Value.ref a from r); rfl
  | ty n => cases (show u = Value.type n from r); rfl

section
variable {P : Program} {w : World} {H H' : Hp} {h h' : Heap} {a C dx : Addr} {fs fs' : List (Str × V)}
theorem ins_get (hok : HOk P w H h) (e : H a = some (.ins C dx fs)) : ∃ mA, ObjM h a dx C mA ∧ (∀ f, RelO (fs.lookup f) (mA f)) ∧ PySem.Within mA (fs.map (·.1)) ∧ fs.length ≤ 1000 ∧ H dx = some (.own a) := by
  obtain ⟨d, z, ne, ob, mA, n, r, q⟩ := (show ObjOk P w H h a (.ins C dx fs) from hok a _ e)
  exact ⟨mA, ⟨ob, n, ne⟩, r, q, z, d⟩
end

/-! ### what of the text a class must have -/
structure Cls (K : PySem.W.Frag) (C : Addr) : Prop where
  pg : PySem.W.plainGet K C Str.empty = true
  hd : PySem.W.hasDictIn K C = true
  po : PySem.W.plainOver K C = true
  sa : PySem.W.findIn K (.ref C) "__setattr__" = some (some (.builtin "object.__setattr__"))
theorem Cls.get {K : PySem.W.Frag} {C : Addr} (c : Cls K C) (f : Str) : PySem.W.plainGet K C f = true := c.pg
/-- no class of it has the name -/
def NoAttr (K : PySem.W.Frag) (C : Addr) (f : Str) : Prop := PySem.W.findIn K (.ref C) f = some none
theorem NoAttr.taker {K : PySem.W.Frag} {C : Addr} {f : Str} (n : NoAttr K C f) : PySem.W.takerIn K C f = some none := by
  unfold PySem.W.takerIn
  rw [show PySem.W.findIn K (.ref C) f = some none from n]
  rfl
/-- a constant of the class -/
structure Con (K : PySem.W.Frag) (C : Addr) (f : Str) (v : V) (u : Value) : Prop where
  at_ : PySem.W.findIn K (.ref C) f = some (some u)
  rel : RelV v u
  get : PySem.W.specialIn K u "__get__" = some none
  cp : PySem.W.copiedNames.contains f = false
/-- a method: a plain def of the class or of one above it -/
structure Meth (K : PySem.W.Frag) (C : Addr) (m : Str) (f : Addr) : Prop where
  at_ : PySem.W.findIn K (.ref C) m = some (some (.ref f))
  fn : PySem.W.isFn K (.ref f) = true
  kp : PySem.W.keepIn K (.ref f) = true

section
variable {X : Cx} {pins : List (Addr × Obj)} {σ : St} {H : Hp} {s : Shared} {a C dx : Addr} {fs : List (Str × V)} {f : Str} {v : V} {A : Around} {E : Value → Shared → Prop}

theorem getattr_ok {b : Bool} {Q : Value → Shared → Prop} (I : Inv X pins σ H s) (e : H a = some (.ins C dx fs)) (c : Cls X.K C) (n : NoAttr X.K C f) (l : fs.lookup f = some v)
    (h : ∀ u s', Inv X pins σ H s' → RelV v u → Q u s') : wpAny (model X.prog X.w) A (getAttr (.ref a) f b) Q E s := by
  obtain ⟨mA, O, r, _, _, _⟩ := ins_get I.hok e
  obtain ⟨u, hu, ru⟩ := RelO.some_of (v := v) (o := mA f) (by rw [← l]; exact r f)
  exact get_map I.kIn O (c.get f) c.hd n hu (handed_of ru) (h u _ (I.tok _) ru)

theorem getcon_ok {b : Bool} {u : Value} {Q : Value → Shared → Prop} (I : Inv X pins σ H s) (e : H a = some (.ins C dx fs)) (c : Cls X.K C) (k : Con X.K C f v u) (l : fs.lookup f = none)
    (h : ∀ s', Inv X pins σ H s' → Q u s') : wpAny (model X.prog X.w) A (getAttr (.ref a) f b) Q E s := by
  obtain ⟨mA, O, r, _, _, _⟩ := ins_get I.hok e
  have hn : mA f = none := RelO.none_of (by rw [← l]; exact r f)
  exact get_const I.kIn O (c.get f) c.hd k.at_ k.get k.cp hn (handed_of k.rel) (h _ (I.tok _))

theorem getmeth_ok {m : Str} {g : Addr} {pl : Sem Bool} {Q : Value × List Value → Shared → Prop} (I : Inv X pins σ H s) (e : H a = some (.ins C dx fs)) (c : Cls X.K C) (k : Meth X.K C m g) (l : fs.lookup m = none)
    (h : Q (.ref g, [.ref a]) s) : wpAny (model X.prog X.w) A (getMethod (.ref a) m pl) Q E s := by
  obtain ⟨mA, O, r, _, _, _⟩ := ins_get I.hok e
  have hn : mA m = none := RelO.none_of (by rw [← l]; exact r m)
  exact get_meth I.kIn O (c.get m) k.at_ k.fn hn h

theorem setattr_ok {y : V} {u : Value} {Q : Unit → Shared → Prop} (I : Inv X pins σ H s) (e : H a = some (.ins C dx fs)) (c : Cls X.K C) (n : NoAttr X.K C f) (hl : fs.length < 1000) (ry : RelV y u)
    (h : ∀ s', Inv X pins σ (upd H a (.ins C dx (putF f y fs))) s' → Q () s') : wpAny (model X.prog X.w) A (setAttr (.ref a) f u) Q E s := by
  obtain ⟨mA, O, r, wi, _, ho⟩ := ins_get I.hok e
  have hz : (fs.map (·.1)).length ≤ sizeLine := by rw [List.length_map, sizeLine_eq]; omega
  refine set_map I.kIn O c.sa c.po n.taker c.hd wi hz fun h' O' sb => h _ ?_
  have hd : ∃ o, h'.get? dx = some o := let ⟨o, _, _, e', _⟩ := O'.ns; ⟨o, e'⟩
  refine I.write (x := a) (e := dx) (by rw [e]; exact True.intro) (.inr ho) (fun b q hb z => (sb.2 b hb).trans z) hd ?_
  refine ⟨by rw [upd_ne O.ne]; exact ho, ?_, O.ne, O'.obj, _, O'.ns, fun g => ?_, fun g hg => ?_⟩
  · have := length_putF f y fs; omega
  · show RelO ((putF f y fs).lookup g) (if g = f then some u else mA g)
    rw [lookup_putF]
    by_cases q : g = f
    · rw [if_pos q, if_pos q]; exact ry
    · rw [if_neg q, if_neg q]; exact r g
  · by_cases q : g = f
    · rw [q]; exact (keys_putF f y fs).1
    · refine (keys_putF f y fs).2 g (wi g fun z => hg ?_)
      show (if g = f then some u else mA g) = none
      rw [if_neg q]; exact z

/-- a new instance, tracked, without attributes -/
theorem Inv.made (I : Inv X pins σ H s) : Inv X pins σ (upd (upd H s.heap.objs.size (.own (s.heap.objs.size + 1))) (s.heap.objs.size + 1) (.ins C s.heap.objs.size []))
    { s with heap := (s.heap.push PySem.W.emptyDict).push (PySem.W.instObj C s.heap.objs.size) } := by
  have e1 : (s.heap.push PySem.W.emptyDict).get? s.heap.objs.size = some PySem.W.emptyDict := Heap.get?_push_size s.heap rfl
  have e2 : ((s.heap.push PySem.W.emptyDict).push (PySem.W.instObj C s.heap.objs.size)).get? (s.heap.objs.size + 1) = some (PySem.W.instObj C s.heap.objs.size) := by
    have := Heap.get?_push_size (s.heap.push PySem.W.emptyDict) (o := PySem.W.instObj C s.heap.objs.size) rfl
    rwa [Heap.size_push] at this
  have e3 : (s.heap.push PySem.W.emptyDict).Ns s.heap.objs.size (fun _ => none) := ⟨PySem.W.emptyDict, #[], _, e1, rfl, (fun e he => absurd he (by simp)), fun _ => rfl⟩
  have I1 := I.laid (a := s.heap.objs.size) (o := .own (s.heap.objs.size + 1)) (h' := s.heap.push PySem.W.emptyDict) (t' := s.toks) (fun b u q => Heap.get?_push_of_some _ q) (Nat.le_refl _) ⟨_, e1⟩
  refine I1.laid (a := s.heap.objs.size + 1) (o := .ins C s.heap.objs.size []) (t' := s.toks) (fun b u q => Heap.get?_push_of_some _ q) (Nat.le_of_eq (Heap.size_push _ _)) ?_
  have ne : s.heap.objs.size ≠ s.heap.objs.size + 1 := Nat.ne_of_lt (Nat.lt_succ_self _)
  refine ⟨by rw [upd_ne ne, upd_same], Nat.zero_le _, ne, e2, fun _ => none, (Heap.Ns1.of_empty e3).at fun o q => Heap.get?_push_of_some _ q, fun _ => True.intro, fun y hy => absurd rfl hy⟩

/-- e.f where nothing but the object is asked: through attributeBase (super) and the last hold -/
theorem attr_of {prog : Program} {w : World} {env : Env} {e : Expr} {f : Str} {pos : Pos} {s : Shared} {Q : Value → Shared → Prop} (hb : attributeBase e f env (eval e env) = eval e env)
    (h : wpAny (model prog w) A (eval e env) (fun o s₁ => wpAny (model prog w) A (getAttr o f true) Q E s₁) E s) : wpAny (model prog w) A (eval (.Attribute e f pos) env) Q E s :=
  Attribute_any_ h (by rw [arm_eval_Attribute, hb])
end

/-! ### readings and rules -/
/-- e.f, an attribute of the instance -/
def tFld (K : PySem.W.Frag) (ta : TE) (f : Str) : TE := fun σ H Q => ta σ H fun x H1 => ∃ a C dx fs v, x = .ref a ∧ H1 a = some (.ins C dx fs) ∧ Cls K C ∧ NoAttr K C f ∧ fs.lookup f = some v ∧ Q v H1
/-- e.f, a constant of the class -/
def tCon (K : PySem.W.Frag) (ta : TE) (f : Str) : TE := fun σ H Q => ta σ H fun x H1 => ∃ a C dx fs v u, x = .ref a ∧ H1 a = some (.ins C dx fs) ∧ Cls K C ∧ Con K C f v u ∧ fs.lookup f = none ∧ Q v H1
/-- e.f = value -/
def sFld (K : PySem.W.Frag) (ta tv : TE) (f : Str) : TS := fun D σ H => tv σ H fun y H1 => ta σ H1 fun x H2 => ∃ a C dx fs, x = .ref a ∧ H2 a = some (.ins C dx fs) ∧ Cls K C ∧ NoAttr K C f ∧ fs.length < 1000 ∧
  D.nx σ (upd H2 a (.ins C dx (putF f y fs)))
/-- an augmented operator on two values -/
def InOp (X : Cx) (op : Operator) (rd : V → V → Hp → VK → Prop) : Prop :=
  ∀ (pins : List (Addr × Obj)) (s : Shared) (σ : St) (H : Hp) (x y : V) (u v : Value) (Q : VK), Inv X pins σ H s → RelV x u → RelV y v → rd x y H Q → wpAny (model X.prog X.w) X.A (inplaceOp op u v) (EP X pins σ Q) X.xe s
/-- e.f op= value -/
def sFldAug (K : PySem.W.Frag) (ta tv : TE) (rd : V → V → Hp → VK → Prop) (f : Str) : TS := fun D σ H => ta σ H fun x H1 => ∃ a C dx fs v, x = .ref a ∧ H1 a = some (.ins C dx fs) ∧ Cls K C ∧ NoAttr K C f ∧ fs.lookup f = some v ∧
  tv σ H1 fun y H2 => rd v y H2 fun z H3 => ∃ dx' fs', H3 a = some (.ins C dx' fs') ∧ fs'.length < 1000 ∧ D.nx σ (upd H3 a (.ins C dx' (putF f z fs')))

section
variable {X : Cx} {o e value : Expr} {f : Str} {pos pos' tpos : Pos} {ta tv : TE}
theorem pe_fld (he : PE X e ta) (hb : attributeBase e f X.env (eval e X.env) = eval e X.env) : PE X (.Attribute e f pos) (tFld X.K ta f) := by
  intro pins s σ H Q I h
  refine attr_of hb (thn (he pins s σ H _ I h) fun u s1 ⟨x, H1, I1, rx, a, C, dx, fs, v, ex, ea, c, n, l, q⟩ => ?_)
  subst ex
  obtain rfl : u = Value.ref a := rx
  exact getattr_ok I1 ea c n l fun u' s2 I2 ru => ⟨v, H1, I2, ru, q⟩
theorem pe_con (he : PE X e ta) (hb : attributeBase e f X.env (eval e X.env) = eval e X.env) : PE X (.Attribute e f pos) (tCon X.K ta f) := by
  intro pins s σ H Q I h
  refine attr_of hb (thn (he pins s σ H _ I h) fun u s1 ⟨x, H1, I1, rx, a, C, dx, fs, v, u0, ex, ea, c, k, l, q⟩ => ?_)
  subst ex
  obtain rfl : u = Value.ref a := rx
  exact getcon_ok I1 ea c k l fun s2 I2 => ⟨v, H1, I2, k.rel, q⟩
theorem ps_fld (ha : PE X o ta) (hv : PE X value tv) (hs : swapsWith value (some (.Attribute o f pos')) pos.line X.env = pure false) : PS X (.Assign [.Attribute o f pos'] value pos) (sFld X.K ta tv f) := by
  intro pins s σ H D I h
  refine plainObj_wpAny_Assign_Attribute (thn (hv pins s σ H _ I h) fun u s1 ⟨y, H1, I1, ry, q⟩ => thn (ha pins s1 σ H1 _ I1 q) fun ov s2 ⟨x, H2, I2, rx, a, C, dx, fs, ex, ea, c, n, l, q2⟩ => ?_) hs
  subst ex
  obtain rfl : ov = Value.ref a := rx
  exact setattr_ok I2 ea c n l ry fun s3 I3 => ⟨σ, _, I3, q2⟩
theorem ps_fldaug {op : Operator} {rd : V → V → Hp → VK → Prop} (ha : PE X o ta) (hv : PE X value tv) (hop : InOp X op rd) : PS X (.AugAssign (.Attribute o f tpos) op value pos) (sFldAug X.K ta tv rd f) := by
  intro pins s σ H D I h
  refine wpAny_AugAssign_AttributeAny (thn (ha pins s σ H _ I h) fun ov s1 ⟨x, H1, I1, rx, a, C, dx, fs, v, ex, ea, c, n, l, q⟩ => ?_)
  subst ex
  obtain rfl : ov = Value.ref a := rx
  refine getattr_ok I1 ea c n l fun u s2 I2 ru => thn (hv pins s2 σ H1 _ I2 q) fun w3 s3 ⟨y, H2, I3, ry, q3⟩ => thn (hop pins s3 σ H2 v y u w3 _ I3 ru ry q3) fun w4 s4 ⟨z, H3, I4, rz, dx', fs', ea', l', q4⟩ => ?_
  exact setattr_ok I4 ea' c n l' rz fun s5 I5 => ⟨σ, _, I5, q4⟩
def rAdd : V → V → Hp → VK → Prop := fun x y H Q => ∃ i j, x = .int i ∧ y = .int j ∧ Q (.int (i + j)) H
def rSub : V → V → Hp → VK → Prop := fun x y H Q => ∃ i j, x = .int i ∧ y = .int j ∧ Q (.int (i - j)) H
theorem in_add : InOp X .Add rAdd := by
  rintro pins s σ H x y u v Q I rx ry ⟨i, j, rfl, rfl, q⟩
  obtain ⟨t, rfl⟩ := (show ∃ t, u = Value.int i t from rx)
  obtain ⟨t', rfl⟩ := (show ∃ t', v = Value.int j t' from ry)
  exact PyProof.Rows.iadd_int ⟨.int (i + j), H, I.tok _, ⟨_, rfl⟩, q⟩
theorem in_sub : InOp X .Sub rSub := by
  rintro pins s σ H x y u v Q I rx ry ⟨i, j, rfl, rfl, q⟩
  obtain ⟨t, rfl⟩ := (show ∃ t, u = Value.int i t from rx)
  obtain ⟨t', rfl⟩ := (show ∃ t', v = Value.int j t' from ry)
  exact PyProof.Rows.isub_int ⟨.int (i - j), H, I.tok _, ⟨_, rfl⟩, q⟩

/-- what is between an instance and its method: the tree of a method call -/
theorem methcall_of {pl : Sem Bool} {m : Str} {apos : Pos} {args : List Expr} {pins : List (Addr × Obj)} {s : Shared} {σ : St} {H : Hp} {Q : Value → Shared → Prop} {te : TE} (he : PE X e te) (I : Inv X pins σ H s)
    (h : te σ H fun x H1 => ∃ a C dx fs g, x = .ref a ∧ H1 a = some (.ins C dx fs) ∧ Cls X.K C ∧ Meth X.K C m g ∧ fs.lookup m = none ∧
      ∀ s1, Inv X pins σ H1 s1 → wpAny (model X.prog X.w) X.A (callWith pos (.ref g) [.ref a] (backTo pos (starEach args X.env)) (backToKw pos (keywordEach [] X.env))) Q X.xe s1)
    (ht : eval (.Call (.Attribute e m apos) args [] pos) X.env = (do
      let ov ← eval e X.env
      standAt apos.atName
      let (f, first) ← holding [ov] (getMethod ov m pl)
      callWith pos f first (backTo pos (starEach args X.env)) (backToKw pos (keywordEach [] X.env)))) :
    wpAny (model X.prog X.w) X.A (eval (.Call (.Attribute e m apos) args [] pos) X.env) Q X.xe s := by
  refine PySem.W.methodCall_KW (pl := pl) (thn (he pins s σ H _ I h) fun u s1 ⟨x, H1, I1, rx, a, C, dx, fs, g, ex, ea, c, k, l, q⟩ => ?_) ht
  subst ex
  obtain rfl : u = Value.ref a := rx
  exact getmeth_ok I1 ea c k l (q s1 I1)
end

/-! ### isinstance -/
section
variable {X : Cx} {pins : List (Addr × Obj)} {σ : St} {H : Hp} {s : Shared} {A : Around} {E : Value → Shared → Prop} {Q : Value → Shared → Prop} {c : Value} {b : Bool}
/-- the type of a value, as the fragment's deciders take it; for an instance its class -/
inductive TyOf (K : PySem.W.Frag) (H : Hp) : V → Value → Prop where
  | non : TyOf K H .non (.type "NoneType")
  | bl (x : Bool) : TyOf K H (.bl x) (.type "bool")
  | int (i : Int) : TyOf K H (.int i) (.type "int")
  | str (x : Str) : TyOf K H (.str x) (.type "str")
  | flt (x : UInt64) : TyOf K H (.flt x) (.type "float")
  | lst {a : Addr} {xs : List V} (e : H a = some (.lst xs)) : TyOf K H (.ref a) (.type "list")
  | frz {a : Addr} {o : Obj} {xs : List V} (e : H a = some (.frz o (.lst xs))) : TyOf K H (.ref a) (.type "list")
  | tup {a : Addr} {xs : List V} (e : H a = some (.tup xs)) : TyOf K H (.ref a) (.type "tuple")
  | dK {a : Addr} {kvs : List (Key × V)} (e : H a = some (.dK kvs)) : TyOf K H (.ref a) (.type "dict")
  | dT {a : Addr} {kvs : List (List Key × V)} (e : H a = some (.dT kvs)) : TyOf K H (.ref a) (.type "dict")
  | ins {a C dx : Addr} {fs : List (Str × V)} (e : H a = some (.ins C dx fs)) (cl : Cls K C) (ha : PySem.W.findIn K (.ref C) "__class__" = some (some (.builtin "object.__class__")))
      (hn : PySem.W.specialIn K (.builtin "object.__class__") "__get__" = some (some (.builtin "getset_descriptor.__get__"))) (htk : PySem.W.takesIn K (.builtin "object.__class__") = some true)
      (hm : PySem.W.mroIn K C (.type "object") = some true) : TyOf K H (.ref a) (.ref C)
/-- isinstance(x, c) for one class c, a built-in or an own one: kitOne's answer -/
theorem isinst_ok {x : V} {u t : Value} (I : Inv X pins σ H s) (rx : RelV x u) (ty : TyOf X.K H x t) (e : PySem.W.kitOne X.K t c = some b) (h : ∀ tk, Q (.bool b) { s with toks := tk }) :
    wpAny (model X.prog X.w) A (call (.builtin "isinstance") [u, c]) Q E s := by
  cases ty with
  | non => cases (show u = Value.none from rx); exact PySem.W.kia_one PySem.W.kitx_none I.kIn True.intro e (fun z => nomatch z) h
  | bl y => cases (show u = Value.bool y from rx); exact PySem.W.kia_one PySem.W.kitx_bool I.kIn True.intro e (fun z => nomatch z) h
  | int i => obtain ⟨t, q⟩ := (show ∃ t, u = Value.int i t from rx); cases q; exact PySem.W.kia_one PySem.W.kitx_int I.kIn True.intro e (fun z => nomatch z) h
  | str y => obtain ⟨t, q⟩ := (show ∃ t, u = Value.str y t from rx); cases q; exact PySem.W.kia_one PySem.W.kitx_str I.kIn True.intro e (fun z => nomatch z) h
  | flt y => obtain ⟨t, q⟩ := (show ∃ t, u = Value.float y t from rx); cases q; exact PySem.W.kia_one PySem.W.kitx_float I.kIn True.intro e (fun z => nomatch z) h
  | @lst a xs ea =>
    cases (show u = Value.ref a from rx)
    obtain ⟨_, _, n, _, h1⟩ := (show ObjOk X.prog X.w H s.heap a (.lst xs) from I.hok a _ ea)
    exact PySem.W.kia_one PySem.W.kitx_list I.kIn ⟨_, h1, rfl⟩ e (fun z => nomatch z) h
  | @frz a ob xs ea =>
    cases (show u = Value.ref a from rx)
    obtain ⟨_, _, _, n, _, h1⟩ := (show ObjOk X.prog X.w H s.heap a (.frz ob (.lst xs)) from I.hok a _ ea)
    exact PySem.W.kia_one PySem.W.kitx_list I.kIn ⟨_, h1, rfl⟩ e (fun z => nomatch z) h
  | @tup a xs ea =>
    cases (show u = Value.ref a from rx)
    obtain ⟨_, _, _, p⟩ := (show ObjOk X.prog X.w H s.heap a (.tup xs) from I.hok a _ ea)
    obtain ⟨o, h1, h2, _⟩ := p
    exact PySem.W.kia_one PySem.W.kitx_tuple I.kIn ⟨o, h1, h2⟩ e (fun z => nomatch z) h
  | @dK a kvs ea =>
    cases (show u = Value.ref a from rx)
    obtain ⟨_, _, vs, _, p⟩ := (show ObjOk X.prog X.w H s.heap a (.dK kvs) from I.hok a _ ea)
    obtain ⟨o, es, ep, h1, h2, _⟩ := p
    exact PySem.W.kia_one PySem.W.kitx_dict I.kIn ⟨o, h1, h2.1⟩ e (fun z => nomatch z) h
  | @dT a kvs ea =>
    cases (show u = Value.ref a from rx)
    obtain ⟨_, _, xs, _, o, es, ep, h1, h2, _⟩ := (show ObjOk X.prog X.w H s.heap a (.dT kvs) from I.hok a _ ea)
    exact PySem.W.kia_one PySem.W.kitx_dict I.kIn ⟨o, h1, h2.1⟩ e (fun z => nomatch z) h
  | @ins a C dx fs ea cl ha hn htk hm =>
    cases (show u = Value.ref a from rx)
    obtain ⟨mA, O, _⟩ := ins_get I.hok ea
    obtain ⟨od, J, _⟩ := O.look
    exact PySem.W.kia_one (PySem.W.kitx_own (cl.get _) cl.hd ha hn htk hm) I.kIn J e (fun z => nomatch z) h
end
end L2

namespace L2
open PySem PySem.Spec PyProof.Rows

/-! ### room -/
structure Room (k : Nat) (A : Around) : Prop where
  hd : A.handled = none
  dp : A.depth + 3 * k + 5 < recursionLimit
  un : A.units + 16 * k + 200 < cLine
theorem Room.mono {j k : Nat} {A : Around} (r : Room k A) (h : j ≤ k) : Room j A := ⟨r.hd, by have := r.dp; omega, by have := r.un; omega⟩
theorem Room.deeper {k : Nat} {A : Around} (r : Room (k + 1) A) (env : Env) : Room k (A.deeper env) :=
  ⟨r.hd, by have := r.dp; show A.depth + 1 + 3 * k + 5 < _; omega, by have := r.un; show A.units + 3 + 16 * k + 200 < _; omega⟩
theorem Room.in1 {k : Nat} {A : Around} (r : Room (k + 1) A) : Room k A.in1 :=
  ⟨r.hd, by have := r.dp; show A.depth + 3 * k + 5 < _; omega, by have := r.un; show A.units + 1 + 16 * k + 200 < _; omega⟩
theorem make_depth {A : Around} {C : Addr} {us : List Value} {kw : List (Str × Value)} : (A.under (.builtin "type.__call__" ⟨.ref C :: us, kw⟩)).depth = A.depth + 1 := by
  first | rfl | simp [Around.under, Code.weight, Code.isCreation, Code.isGuard, Code.isCaller, Code.frames, Code.isFrame, guardIds]
theorem make_units {A : Around} {C : Addr} {us : List Value} {kw : List (Str × Value)} : (A.under (.builtin "type.__call__" ⟨.ref C :: us, kw⟩)).units = A.units + 1 := by
  first | rfl | simp [Around.under, Code.cUnits, Code.frames, Code.isFrame]
theorem Room.make {k : Nat} {A : Around} (r : Room (k + 1) A) (C : Addr) (us : List Value) (kw : List (Str × Value)) : Room k (A.under (.builtin "type.__call__" ⟨.ref C :: us, kw⟩)) :=
  ⟨r.hd, by have := r.dp; rw [make_depth]; omega, by have := r.un; rw [make_units]; omega⟩
theorem Room.depth {k : Nat} {A : Around} (r : Room k A) : A.depth < recursionLimit := by have := r.dp; omega
theorem Room.units {k : Nat} {A : Around} (r : Room k A) : A.units + 64 < cLine := by have := r.un; omega
theorem Room.units0 {k : Nat} {A : Around} (r : Room k A) : A.units < cLine := by have := r.un; omega

/-! ### argument lists and displays -/
def tNil : TA := fun _ H Q => Q [] H
def tCons (ta : TE) (tr : TA) : TA := fun σ H Q => ta σ H fun x H1 => tr σ H1 fun xs H2 => Q (x :: xs) H2
section
variable {X : Cx} {e : Expr} {es : List Expr} {te : TE} {t : TA} {pos : Pos}
theorem pa_nil : PA X [] tNil := fun _ _ _ _ H Q I h => Calls.spliced_nil ⟨[], H, I, .nil, h⟩
theorem pa_cons (ha : PE X e te) (hr : PA X es t) (hs : starEach (e :: es) X.env = (false, eval e X.env) :: starEach es X.env := by rfl) : PA X (e :: es) (tCons te t) := by
  intro pos pins s σ H Q I h
  rw [hs]
  show wpAny _ _ (spliced ((false, eval e X.env) :: backTo pos (starEach es X.env))) _ _ s
  refine Calls.spliced_cons (thn (ha pins s σ H _ I h) fun u s1 ⟨x, H1, I1, r1, q1⟩ => ?_)
  exact thn (hr pos pins s1 σ H1 _ I1 q1) fun us s2 ⟨xs, H2, I2, r2, q2⟩ => ⟨x :: xs, H2, I2, .cons r1 r2, q2⟩

/-- a tuple, a list of written items -/
def tTup (t : TA) : TE := fun σ H Q => t σ H fun xs H1 => xs.length ≤ sizeLine ∧ ∀ p, H1 p = none → Q (.ref p) (upd H1 p (.tup xs))
def tLst (t : TA) : TE := fun σ H Q => t σ H fun xs H1 => xs.length ≤ sizeLine ∧ ∀ p, H1 p = none → Q (.ref p) (upd H1 p (.lst xs))
theorem pe_tup {x1} (h : PA X es t) : PE X (.Tuple es x1 pos) (tTup t) := by
  intro pins s σ H Q I hq
  refine wpAny_Tuple_spliced (thn (h pos pins s σ H _ I hq) fun us s1 ⟨xs, H1, I1, r, z, q⟩ => ⟨by rw [← r.length]; exact z, ?_⟩)
  have hf : H1 s1.heap.objs.size = none := I1.hok.fresh (Nat.le_refl _)
  refine ⟨.ref s1.heap.objs.size, upd H1 s1.heap.objs.size (.tup xs), I1.laid (t' := s1.toks) (fun b u e => Heap.get?_push_of_some _ e) (Nat.le_refl _) ?_, rfl, q _ hf⟩
  exact ⟨z, us, r, ⟨_, Heap.get?_push_size _ rfl, rfl, _, rfl⟩⟩
theorem pe_lst (h : PA X es t) : PE X (.List es pos) (tLst t) := by
  intro pins s σ H Q I hq
  refine wpAny_List_spliced (thn (h pos pins s σ H _ I hq) fun us s1 ⟨xs, H1, I1, r, z, q⟩ => ⟨by rw [← r.length]; exact z, ?_⟩)
  have hf : H1 s1.heap.objs.size = none := I1.hok.fresh (Nat.le_refl _)
  refine ⟨.ref s1.heap.objs.size, upd H1 s1.heap.objs.size (.lst xs), I1.laid (t' := s1.toks) (fun b u e => Heap.get?_push_of_some _ e) (Nat.le_refl _) ?_, rfl, q _ hf⟩
  exact ⟨z, us, 0, r, Heap.get?_push_size _ rfl⟩
end

/-! ### what a def promises -/
/-- a def's promise: the bound arguments in the parameters' order, the heap, the wanted end, the wanted exception -/
abbrev Sp := List V → Hp → VK → XK → Prop
/-- how an exception lies behind a call (file 08 gives it): the callers' frames, abstract heap and state ahead of the call, the wish, the exception, the state -/
abbrev CXT := List Env → Hp → Shared → XK → Value → Shared → Prop

/-- the state at a call -/
structure Env0 (P : Program) (w : World) (K : PySem.W.Frag) (mg : Str → Option Value) (base : Heap) (A : Around) (outer : List Env) (s : Shared) (H : Hp) : Prop where
  frames : A.frames = some outer
  mod : Mod K mg base
  bs : ∀ b o, base.get? b = some o → s.heap.get? b = some o ∧ H b = none
  bsz : base.objs.size ≤ s.heap.objs.size
  funs : s.heap.FunFrames base outer
  frf : ∀ b ∈ frs outer, H b = none
  hok : HOk P w H s.heap
  bare : AllBare s.gens
/-- a call's end -/
def CE (outer : List Env) (P : Program) (w : World) (H : Hp) (s : Shared) (Q : VK) (u : Value) (s' : Shared) : Prop :=
  ∃ v H', s'.os = s.os ∧ AllBare s'.gens ∧ Un (frs outer) [] H H' s.heap s'.heap ∧ HOk P w H' s'.heap ∧ RelV v u ∧ Q v H'
def CR (CX : CXT) (outer : List Env) (P : Program) (w : World) (H : Hp) (s : Shared) (Q : VK) (E : XK) (r : Result) (s' : Shared) : Prop :=
  match r with
  | .ok (.ret u) => CE outer P w H s Q u s'
  | .ok _ => False
  | .error e => CX outer H s E e s'
structure FnOk (P : Program) (w : World) (K : PySem.W.Frag) (mg : Str → Option Value) (base : Heap) (CX : CXT) (k : Nat) (f : Addr) (fd : FuncData) (ps : List Str) (sp : Sp) : Prop where
  len : ∀ vs H Q E, sp vs H Q E → vs.length = ps.length
  run : ∀ (A : Around) (outer : List Env) (s : Shared) (H : Hp) (args : Args) (us : List Value) (vs : List V) (Q : VK) (E : XK), Room k A → Env0 P w K mg base A outer s H → BindsTo s fd args (ps.zip us) → Vals vs us → sp vs H Q E →
    codeAny (model P w) A (.call (.ref f) args) (CR CX outer P w H s Q E) s
theorem FnOk.mono {P : Program} {w : World} {K : PySem.W.Frag} {mg : Str → Option Value} {base : Heap} {CX : CXT} {j k : Nat} {f : Addr} {fd : FuncData} {ps : List Str} {sp : Sp} (F : FnOk P w K mg base CX j f fd ps sp) (h : j ≤ k) :
    FnOk P w K mg base CX k f fd ps sp := ⟨F.len, fun A outer s H args us vs Q E hr => F.run A outer s H args us vs Q E (hr.mono h)⟩
/-- a weaker promise -/
theorem FnOk.imp {P : Program} {w : World} {K : PySem.W.Frag} {mg : Str → Option Value} {base : Heap} {CX : CXT} {k : Nat} {f : Addr} {fd : FuncData} {ps : List Str} {sp sp' : Sp} (F : FnOk P w K mg base CX k f fd ps sp)
    (h : ∀ vs H Q E, sp' vs H Q E → sp vs H Q E) : FnOk P w K mg base CX k f fd ps sp' :=
  ⟨fun vs H Q E q => F.len vs H Q E (h _ _ _ _ q), fun A outer s H args us vs Q E hr he hb hv hs => F.run A outer s H args us vs Q E hr he hb hv (h _ _ _ _ hs)⟩

theorem Env0.make {P : Program} {w : World} {K : PySem.W.Frag} {mg : Str → Option Value} {base : Heap} {A : Around} {outer : List Env} {s : Shared} {H : Hp} (e : Env0 P w K mg base A outer s H) (C : Addr) (us : List Value) (kw : List (Str × Value)) :
    Env0 P w K mg base (A.under (.builtin "type.__call__" ⟨.ref C :: us, kw⟩)) outer s H := ⟨by first | exact e.frames | (simpa [Around.under, Code.envs, Code.isFrame, pushEnvs] using e.frames), e.mod, e.bs, e.bsz, e.funs, e.frf, e.hok, e.bare⟩
theorem Env0.in1 {P : Program} {w : World} {K : PySem.W.Frag} {mg : Str → Option Value} {base : Heap} {A : Around} {outer : List Env} {s : Shared} {H : Hp} (e : Env0 P w K mg base A outer s H) :
    Env0 P w K mg base A.in1 outer s H := ⟨e.frames, e.mod, e.bs, e.bsz, e.funs, e.frf, e.hok, e.bare⟩

section
variable {X : Cx} {pins : List (Addr × Obj)} {σ : St} {H : Hp} {s s' : Shared}
/-- from a body: what a callee wants -/
theorem Inv.env0 (I : Inv X pins σ H s) : Env0 X.prog X.w X.K X.mg X.base X.A X.stack s H :=
  ⟨I.ok.frames, I.ok.mod, I.bs, Nat.le_trans I.ok.bsz I.sz, I.stack, I.stkFree, I.hok, I.bare⟩
/-- behind a call -/
theorem Inv.after {Q : VK} {u : Value} (I : Inv X pins σ H s) (h : CE X.stack X.prog X.w H s Q u s') : EP X pins σ Q u s' := by
  obtain ⟨v, H', os, bare, un, hok, r, q⟩ := h
  obtain ⟨hh, g, d, t, os'⟩ := s'
  obtain rfl : os' = s.os := os
  exact ⟨v, H', I.call (h' := hh) (g' := g) (d' := d) (t' := t) (ch := []) un hok bare (fun b z => absurd z (by simp)), r, q⟩
end

/-! ### calls -/
/-- f(..): the written arguments, then the defaults dvs; E: what is wanted of an exception -/
def tCall (sp : Sp) (dvs : List V) (E : XK) (t : TA) : TE := fun σ H Q => t σ H fun vs H1 => sp (vs ++ dvs) H1 Q E
/-- o.m(..) of an instance of the class at C -/
def tMeth (C : Addr) (m : Str) (sp : Sp) (dvs : List V) (E : XK) (ta : TE) (t : TA) : TE := fun σ H Q => ta σ H fun x H1 => ∃ a dx fs, x = .ref a ∧ H1 a = some (.ins C dx fs) ∧ fs.lookup m = none ∧
  t σ H1 fun vs H2 => sp (x :: (vs ++ dvs)) H2 Q E
/-- C(..): a new instance and its dict, then __init__ -/
def tMake (C : Addr) (sp : Sp) (dvs : List V) (E : XK) (t : TA) : TE := fun σ H Q => t σ H fun vs H1 => ∀ x dx, H1 x = none → H1 dx = none → dx ≠ x →
  sp (.ref x :: (vs ++ dvs)) (upd (upd H1 dx (.own x)) x (.ins C dx [])) (fun v H2 => v = .non ∧ Q (.ref x) H2) E

/-- how the parameters are bound: us the positional arguments, kw the keywords' values by name, ds the defaults that fill up -/
def Binds (K : PySem.W.Frag) (fd : FuncData) (ps : List Str) (ds : List Value) : Prop :=
  ∀ (s : Shared) (us : List Value), K.In s.heap → (us ++ ds).length = ps.length → BindsTo s fd ⟨us, []⟩ (ps.zip (us ++ ds))
/-- every parameter is given -/
theorem Binds.all {K : PySem.W.Frag} {fd : FuncData} {ps : List Str} (h : ∀ us : List Value, us.length = ps.length → bindArgs fd ⟨us, []⟩ = pure (ps.zip us)) : Binds K fd ps [] := fun s us _ hl => by
  rw [List.append_nil] at hl ⊢
  exact .of_eq (h us hl)

/-- an exception of a callee reaches what this body wants of exceptions -/
def Passes (CX : CXT) (X : Cx) (E : XK) : Prop := ∀ (pins : List (Addr × Obj)) (σ : St) (H : Hp) (s : Shared) (e : Value) (s' : Shared), Inv X pins σ H s → CX X.stack H s E e s' → X.xe e s'

section
variable {X : Cx} {CX : CXT} {k : Nat} {f C : Addr} {fd : FuncData} {ps : List Str} {sp : Sp} {dvs : List V} {ds : List Value} {E : XK} {x m : Str} {p pos apos : Pos} {e o : Expr} {es : List Expr} {ta : TE} {t : TA}

/-- the callee runs -/
theorem run_fn {pins : List (Addr × Obj)} {σ : St} {H : Hp} {s : Shared} {Q : VK} {us : List Value} {vs : List V} (F : FnOk X.prog X.w X.K X.mg X.base CX k f fd ps sp) (hr : Room k X.A) (hb : Binds X.K fd ps ds) (hd : Vals dvs ds) (hx : Passes CX X E)
    (I : Inv X pins σ H s) (r : Vals vs us) (h : sp (vs ++ dvs) H Q E) : wpAny (model X.prog X.w) X.A (call (.ref f) us) (EP X pins σ Q) X.xe s := by
  have r2 : Vals (vs ++ dvs) (us ++ ds) := r.append hd
  have hl : (us ++ ds).length = ps.length := by rw [← r2.length]; exact F.len _ _ _ _ h
  refine wpAny_call (codeAny_mono (F.run X.A X.stack s H ⟨us, []⟩ (us ++ ds) (vs ++ dvs) Q E hr I.env0 (hb s us I.kIn hl) r2 h) fun r s' hq => ?_)
  cases r with
  | error e => exact hx pins σ H s e s' I hq
  | ok fl =>
    cases fl with
    | ret u => exact I.after hq
    | next => exact False.elim hq
    | brk => exact False.elim hq
    | cont => exact False.elim hq

theorem pe_call (F : FnOk X.prog X.w X.K X.mg X.base CX k f fd ps sp) (hr : Room k X.A) (hg : Gl X x) (hm : X.mg x = some (.ref f)) (hk : PySem.W.keepIn X.K (.ref f) = true) (hb : Binds X.K fd ps ds) (hd : Vals dvs ds) (hx : Passes CX X E)
    (ha : PA X (e :: es) t) (hdb : (x == ("__debug__" : Str)) = false := by decide) (he : starEach (e :: es) X.env = (false, eval e X.env) :: starEach es X.env := by rfl) (hpl : (backTo pos (starEach es X.env)).any (·.1) = false := by rfl) :
    PE X (.Call (.Name x p) (e :: es) [] pos) (tCall sp dvs E t) := by
  intro pins s σ H Q I h
  refine wpAny_Call_Name_kw (ld_glob I hg hm ?_ hdb)
  refine PySem.W.callWith_K (h₀ := X.base) I.ok.mod.kin hk (thn (ha pos pins s σ H _ I h) fun us s1 ⟨vs, H1, I1, r, q⟩ => ⟨I1.kIn, ?_⟩) he hpl
  exact run_fn F hr hb hd hx I1 r q
theorem pe_call0 (F : FnOk X.prog X.w X.K X.mg X.base CX k f fd ps sp) (hr : Room k X.A) (hg : Gl X x) (hm : X.mg x = some (.ref f)) (hk : PySem.W.keepIn X.K (.ref f) = true) (hb : Binds X.K fd ps ds) (hd : Vals dvs ds) (hx : Passes CX X E)
    (hdb : (x == ("__debug__" : Str)) = false := by decide) : PE X (.Call (.Name x p) [] [] pos) (tCall sp dvs E tNil) := by
  intro pins s σ H Q I h
  refine wpAny_Call_Name_kw (ld_glob I hg hm ?_ hdb)
  exact PySem.W.callWith_K0 I.kIn hk (run_fn (us := []) F hr hb hd hx I .nil h)

/-- o.m(e, ..) -/
theorem pe_meth {pl : Sem Bool} (he : PE X o ta) (c : Cls X.K C) (hm : Meth X.K C m f) (F : FnOk X.prog X.w X.K X.mg X.base CX k f fd ps sp) (hr : Room k X.A) (hb : Binds X.K fd ps ds) (hd : Vals dvs ds) (hx : Passes CX X E) (ha : PA X (e :: es) t)
    (hst : starEach (e :: es) X.env = (false, eval e X.env) :: starEach es X.env := by rfl) (hpl : (backTo pos (starEach es X.env)).any (·.1) = false := by rfl)
    (ht : eval (.Call (.Attribute o m apos) (e :: es) [] pos) X.env = (do
      let ov ← eval o X.env
      standAt apos.atName
      let (f, first) ← holding [ov] (getMethod ov m pl)
      callWith pos f first (backTo pos (starEach (e :: es) X.env)) (backToKw pos (keywordEach [] X.env))) := by rfl) :
    PE X (.Call (.Attribute o m apos) (e :: es) [] pos) (tMeth C m sp dvs E ta t) := by
  intro pins s σ H Q I h
  refine PySem.W.methodCall_KW (pl := pl) (thn (he pins s σ H _ I h) fun u s1 ⟨x, H1, I1, rx, a, dx, fs, ex, ea, l, q⟩ => ?_) ht
  subst ex
  obtain rfl : u = Value.ref a := rx
  refine getmeth_ok I1 ea c hm l ?_
  refine PySem.W.callWith_K (first := [.ref a]) (h₀ := X.base) I.ok.mod.kin hm.kp (thn (ha pos pins s1 σ H1 _ I1 q) fun us s2 ⟨vs, H2, I2, r, q2⟩ => ⟨I2.kIn, ?_⟩) hst hpl
  exact run_fn (us := .ref a :: us) (vs := .ref a :: vs) F hr hb hd hx I2 (.cons rfl r) q2
/-- o.m() -/
theorem pe_meth0 {pl : Sem Bool} (he : PE X o ta) (c : Cls X.K C) (hm : Meth X.K C m f) (F : FnOk X.prog X.w X.K X.mg X.base CX k f fd ps sp) (hr : Room k X.A) (hb : Binds X.K fd ps ds) (hd : Vals dvs ds) (hx : Passes CX X E)
    (ht : eval (.Call (.Attribute o m apos) [] [] pos) X.env = (do
      let ov ← eval o X.env
      standAt apos.atName
      let (f, first) ← holding [ov] (getMethod ov m pl)
      callWith pos f first (backTo pos (starEach [] X.env)) (backToKw pos (keywordEach [] X.env))) := by rfl) :
    PE X (.Call (.Attribute o m apos) [] [] pos) (tMeth C m sp dvs E ta tNil) := by
  intro pins s σ H Q I h
  refine PySem.W.methodCall_KW (pl := pl) (thn (he pins s σ H _ I h) fun u s1 ⟨x, H1, I1, rx, a, dx, fs, ex, ea, l, q⟩ => ?_) ht
  subst ex
  obtain rfl : u = Value.ref a := rx
  refine getmeth_ok I1 ea c hm l ?_
  exact PySem.W.callWith_K0 (first := [.ref a]) I1.kIn hm.kp (run_fn (us := [.ref a]) (vs := [.ref a]) F hr hb hd hx I1 (.cons rfl .nil) q)

/-- what a class must have to be made -/
structure Mk (K : PySem.W.Frag) (C f : Addr) : Prop where
  makes : PySem.W.makesIn K C = true
  init : PySem.W.findIn K (.ref C) "__init__" = some (some (.ref f))
  fn : PySem.W.isFn K (.ref f) = true
  kp : PySem.W.keepIn K (.ref C) = true

theorem run_make {pins : List (Addr × Obj)} {σ : St} {H : Hp} {s : Shared} {Q : VK} {us : List Value} {vs : List V} (M : Mk X.K C f) (F : FnOk X.prog X.w X.K X.mg X.base CX k f fd ps sp) (hr : Room (k + 1) X.A) (hb : Binds X.K fd ps ds) (hd : Vals dvs ds)
    (hx : Passes CX X E) (I : Inv X pins σ H s) (r : Vals vs us)
    (h : ∀ x dx, H x = none → H dx = none → dx ≠ x → sp (.ref x :: (vs ++ dvs)) (upd (upd H dx (.own x)) x (.ins C dx [])) (fun v H2 => v = .non ∧ Q (.ref x) H2) E) :
    wpAny (model X.prog X.w) X.A (call (.ref C) us) (EP X pins σ Q) X.xe s := by
  have hq := h (s.heap.objs.size + 1) s.heap.objs.size (I.hok.fresh (Nat.le_succ _)) (I.hok.fresh (Nat.le_refl _)) (Nat.ne_of_lt (Nat.lt_succ_self _))
  have I2 := Inv.made (C := C) I
  have r2 : Vals (V.ref (s.heap.objs.size + 1) :: (vs ++ dvs)) (Value.ref (s.heap.objs.size + 1) :: (us ++ ds)) := .cons rfl (r.append hd)
  have hl : (Value.ref (s.heap.objs.size + 1) :: us ++ ds).length = ps.length := by
    have e := r2.length
    rw [F.len _ _ _ _ hq] at e
    exact e.symm
  refine wpAny_call (make_map (f := f) I.kIn M.makes M.init (beq_iff_eq.mp M.fn) (codeAny_mono (F.run _ X.stack _ _ ⟨Value.ref (s.heap.objs.size + 1) :: us, []⟩ (Value.ref (s.heap.objs.size + 1) :: (us ++ ds)) _ _ E (hr.make C us [])
    (I2.env0.make C us []) (hb _ (Value.ref (s.heap.objs.size + 1) :: us) I2.kIn hl) r2 hq) fun r s' hq' => ?_))
  cases r with
  | error e => exact hx pins σ _ _ e s' I2 hq'
  | ok fl =>
    cases fl with
    | ret u =>
      obtain ⟨v, H', I3, rv, ev, q3⟩ := I2.after hq'
      subst ev
      exact ⟨rv, ⟨V.ref (s.heap.objs.size + 1), H', I3, rfl, q3⟩⟩
    | next => exact False.elim hq'
    | brk => exact False.elim hq'
    | cont => exact False.elim hq'
theorem pe_make (M : Mk X.K C f) (F : FnOk X.prog X.w X.K X.mg X.base CX k f fd ps sp) (hr : Room (k + 1) X.A) (hg : Gl X x) (hm : X.mg x = some (.ref C)) (hb : Binds X.K fd ps ds) (hd : Vals dvs ds) (hx : Passes CX X E)
    (ha : PA X (e :: es) t) (hdb : (x == ("__debug__" : Str)) = false := by decide) (he : starEach (e :: es) X.env = (false, eval e X.env) :: starEach es X.env := by rfl) (hpl : (backTo pos (starEach es X.env)).any (·.1) = false := by rfl) :
    PE X (.Call (.Name x p) (e :: es) [] pos) (tMake C sp dvs E t) := by
  intro pins s σ H Q I h
  refine wpAny_Call_Name_kw (ld_glob I hg hm ?_ hdb)
  refine PySem.W.callWith_K (h₀ := X.base) I.ok.mod.kin M.kp (thn (ha pos pins s σ H _ I h) fun us s1 ⟨vs, H1, I1, r, q⟩ => ⟨I1.kIn, ?_⟩) he hpl
  exact run_make M F hr hb hd hx I1 r q
theorem pe_make0 (M : Mk X.K C f) (F : FnOk X.prog X.w X.K X.mg X.base CX k f fd ps sp) (hr : Room (k + 1) X.A) (hg : Gl X x) (hm : X.mg x = some (.ref C)) (hb : Binds X.K fd ps ds) (hd : Vals dvs ds) (hx : Passes CX X E)
    (hdb : (x == ("__debug__" : Str)) = false := by decide) : PE X (.Call (.Name x p) [] [] pos) (tMake C sp dvs E tNil) := by
  intro pins s σ H Q I h
  refine wpAny_Call_Name_kw (ld_glob I hg hm ?_ hdb)
  exact PySem.W.callWith_K0 I.kIn M.kp (run_make (us := []) M F hr hb hd hx I .nil h)
end

/-! ### keywords -/
/-- the values of the keywords, from the left -/
def PK (X : Cx) (kws : List Keyword) (t : TA) : Prop :=
  ∀ (pos : Pos) (pins : List (Addr × Obj)) (s : Shared) (σ : St) (H : Hp) (Q : List V → Hp → Prop), Inv X pins σ H s → t σ H Q → wpAny (model X.prog X.w) X.A (evalAll ((backToKw pos (keywordEach kws X.env)).map (·.2))) (AP X pins σ Q) X.xe s
section
variable {X : Cx} {CX : CXT} {k : Nat} {f C : Addr} {fd : FuncData} {ps ks : List Str} {sp : Sp} {E : XK} {x m : Str} {p pos apos kpos : Pos} {e o : Expr} {es : List Expr} {kws : List Keyword} {te ta : TE} {t tk : TA} {nm : Option Str}
theorem pk_nil : PK X [] tNil := fun _ _ _ _ H Q I h => wpAny_evalAll_nil ⟨[], H, I, .nil, h⟩
theorem pk_cons (ha : PE X e te) (hr : PK X kws t) : PK X (⟨nm, e, kpos⟩ :: kws) (tCons te t) := by
  intro pos pins s σ H Q I h
  show wpAny _ _ (evalAll ((do let v ← eval e X.env; standAt pos; pure v) :: (backToKw pos (keywordEach kws X.env)).map (·.2))) _ _ s
  refine wpAny_evalAll_cons (wpAny_bind (thn (ha pins s σ H _ I h) fun u s1 ⟨x, H1, I1, r1, q1⟩ => wpAny_bind (wpAny_standAt (wpAny_pure ?_))))
  exact thn (hr pos pins s1 σ H1 _ I1 q1) fun us s2 ⟨xs, H2, I2, r2, q2⟩ => ⟨x :: xs, H2, I2, .cons r1 r2, q2⟩

/-- how a call with keywords binds: g puts the positional values us and the keywords' values ws (names ks) in the parameters' order, defaults among them -/
structure KBinds (K : PySem.W.Frag) (fd : FuncData) (ps ks : List Str) (g : List Value → List Value → List Value) (gV : List V → List V → List V) : Prop where
  to : ∀ (s : Shared) (us ws : List Value), K.In s.heap → (g us ws).length = ps.length → BindsTo s fd ⟨us, ks.zip ws⟩ (ps.zip (g us ws))
  rel : ∀ {vs : List V} {us : List Value} {zs : List V} {ws : List Value}, Vals vs us → Vals zs ws → Vals (gV vs zs) (g us ws)
def tCallK (sp : Sp) (gV : List V → List V → List V) (E : XK) (t tk : TA) : TE := fun σ H Q => t σ H fun vs H1 => tk σ H1 fun zs H2 => sp (gV vs zs) H2 Q E
variable {g : List Value → List Value → List Value} {gV : List V → List V → List V}
theorem run_fnk {pins : List (Addr × Obj)} {σ : St} {H : Hp} {s : Shared} {Q : VK} {us ws : List Value} {vs zs : List V} (F : FnOk X.prog X.w X.K X.mg X.base CX k f fd ps sp) (hr : Room k X.A) (hb : KBinds X.K fd ps ks g gV) (hx : Passes CX X E)
    (I : Inv X pins σ H s) (r : Vals vs us) (rz : Vals zs ws) (h : sp (gV vs zs) H Q E) : wpAny (model X.prog X.w) X.A (call (.ref f) us (ks.zip ws)) (EP X pins σ Q) X.xe s := by
  have r2 := hb.rel r rz
  have hl : (g us ws).length = ps.length := by rw [← r2.length]; exact F.len _ _ _ _ h
  refine wpAny_call (codeAny_mono (F.run X.A X.stack s H ⟨us, ks.zip ws⟩ (g us ws) (gV vs zs) Q E hr I.env0 (hb.to s us ws I.kIn hl) r2 h) fun r s' hq => ?_)
  cases r with
  | error e => exact hx pins σ H s e s' I hq
  | ok fl =>
    cases fl with
    | ret u => exact I.after hq
    | next => exact False.elim hq
    | brk => exact False.elim hq
    | cont => exact False.elim hq
/-- f(e, .., k = v, ..) -/
theorem pe_callK (F : FnOk X.prog X.w X.K X.mg X.base CX k f fd ps sp) (hr : Room k X.A) (hg : Gl X x) (hm : X.mg x = some (.ref f)) (hk : PySem.W.keepIn X.K (.ref f) = true) (hb : KBinds X.K fd ps ks g gV) (hx : Passes CX X E)
    (ha : PA X (e :: es) t) (hkw : PK X kws tk) (hall : (backToKw pos (keywordEach kws X.env)).all (·.1.isSome) = true := by rfl) (hks : (backToKw pos (keywordEach kws X.env)).filterMap (·.1) = ks := by rfl)
    (hdb : (x == ("__debug__" : Str)) = false := by decide) (he : starEach (e :: es) X.env = (false, eval e X.env) :: starEach es X.env := by rfl)
    (hpl : ((backTo pos (starEach (e :: es) X.env)).any (·.1) || (backToKw pos (keywordEach kws X.env)).any (·.1.isNone)) = false := by rfl) :
    PE X (.Call (.Name x p) (e :: es) kws pos) (tCallK sp gV E t tk) := by
  intro pins s σ H Q I h
  refine wpAny_Call_Name_kw (ld_glob I hg hm ?_ hdb)
  refine PySem.W.callWith_KW (h₀ := X.base) I.ok.mod.kin hk hall (thn (ha pos pins s σ H _ I h) fun us s1 ⟨vs, H1, I1, r, q⟩ => ?_) hpl he
  refine thn (hkw pos pins s1 σ H1 _ I1 q) fun ws s2 ⟨zs, H2, I2, rz, q2⟩ => ⟨I2.kIn, ?_⟩
  rw [hks]
  exact run_fnk F hr hb hx I2 r rz q2
end

/-! ### a def's body keeps its promise -/
/-- names: the parameters first -/
structure FnScope (N P : List Str) (sc : Scope) : Prop where
  kind : sc.kind = .function
  co : sc.isCoroutine = false
  gen : sc.isGenerator = false
  nd : N.Nodup
  pre : N.take P.length = P
  par : ∀ x ∈ P, sc.names.lookup x = some .local ∨ sc.names.lookup x = some .cell
  nofree : ∀ y ∈ sc.names, y.2 ≠ .free

theorem bindL_out {kindOf : Str → Option NameKind} {x : Str} : ∀ {binds : List (Str × Value)} {m : Str → Option Value}, (∀ v, (x, v) ∉ binds) → bindL kindOf binds m x = m x
  | [], _, _ => rfl
  | (n, v) :: r, m, h => by
    unfold bindL
    rw [bindL_out fun w hw => h w (List.mem_cons_of_mem _ hw)]
    split
    · have : x ≠ n := by rintro rfl; exact h v List.mem_cons_self
      simp [this]
    · rfl
theorem bindC_out {kindOf : Str → Option NameKind} {x : Str} : ∀ {binds : List (Str × Value)} {m : Str → Option Value}, (∀ v, (x, v) ∉ binds) → bindC kindOf binds m x = m x
  | [], _, _ => rfl
  | (n, v) :: r, m, h => by
    unfold bindC
    rw [bindC_out fun w hw => h w (List.mem_cons_of_mem _ hw)]
    split
    · rfl
    · have : x ≠ n := by rintro rfl; exact h v List.mem_cons_self
      simp [this]
theorem bindL_get {kindOf : Str → Option NameKind} {x : Str} {v : Value} : ∀ {P : List Str} {vs : List Value} {i : Nat} {m : Str → Option Value}, P.Nodup → P[i]? = some x → vs[i]? = some v → kindOf x = some .local →
    bindL kindOf (P.zip vs) m x = some v
  | [], _, _, _, _, h, _, _ => by simp at h
  | _ :: _, [], _, _, _, _, h, _ => by simp at h
  | p :: P, w :: vs, 0, m, nd, h1, h2, hk => by
    simp at h1 h2; subst h1; subst h2
    show bindL kindOf ((p, w) :: P.zip vs) m p = _
    unfold bindL
    rw [bindL_out fun v hv => (List.nodup_cons.mp nd).1 (List.of_mem_zip hv).1, if_pos hk]
    simp
  | p :: P, w :: vs, i + 1, m, nd, h1, h2, hk => by
    show bindL kindOf ((p, w) :: P.zip vs) m x = _
    unfold bindL
    exact bindL_get (i := i) (List.nodup_cons.mp nd).2 (by simpa using h1) (by simpa using h2) hk
theorem bindC_get {kindOf : Str → Option NameKind} {x : Str} {v : Value} : ∀ {P : List Str} {vs : List Value} {i : Nat} {m : Str → Option Value}, P.Nodup → P[i]? = some x → vs[i]? = some v → kindOf x ≠ some .local →
    bindC kindOf (P.zip vs) m x = some v
  | [], _, _, _, _, h, _, _ => by simp at h
  | _ :: _, [], _, _, _, _, h, _ => by simp at h
  | p :: P, w :: vs, 0, m, nd, h1, h2, hk => by
    simp at h1 h2; subst h1; subst h2
    show bindC kindOf ((p, w) :: P.zip vs) m p = _
    unfold bindC
    rw [bindC_out fun v hv => (List.nodup_cons.mp nd).1 (List.of_mem_zip hv).1, if_neg hk]
    simp
  | p :: P, w :: vs, i + 1, m, nd, h1, h2, hk => by
    show bindC kindOf ((p, w) :: P.zip vs) m x = _
    unfold bindC
    exact bindC_get (i := i) (List.nodup_cons.mp nd).2 (by simpa using h1) (by simpa using h2) hk

/-- the names' values at the entry -/
def start (N : List Str) (vs : List V) : St := vs.map some ++ List.replicate (N.length - vs.length) none

/-- the context of a def's body, at its entry; an exception leaves the frame, then lies as CX says -/
def cxOf (CX : CXT) (P : Program) (w : World) (K : PySem.W.Frag) (mg : Str → Option Value) (base : Heap) (N : List Str) (qual : Str) (scope : Scope) (f : Addr) (cd : Value) (A : Around) (outer : List Env) (s : Shared) (H : Hp) (E : XK) : Cx where
  prog := P
  w := w
  K := K
  mg := mg
  base := base
  A := A.deeper (envOfC qual scope s.heap.objs.size f cd)
  N := N
  s₀ := s
  H₀ := H
  env := envOfC qual scope s.heap.objs.size f cd
  outer := outer
  stack := envOfC qual scope s.heap.objs.size f cd :: outer
  ex := []
  calm := true
  fn := fun _ => true
  pn := []
  xe := fun e s' => wpAny (model P w) (A.deeper (envOfC qual scope s.heap.objs.size f cd)) (leaving (envOfC qual scope s.heap.objs.size f cd) e) (fun _ s'' => CX outer H s E e s'') (fun e' s'' => CX outer H s E e' s'') s'

theorem cell_has {sc : Scope} {n : Nat} {x : Str} (h : sc.names.lookup x = some .cell) : ∃ c, (cellsFrom n sc.names []).lookup x = some c := by
  have q := PySem.W.cellsFrom_some sc.names n [] (.inl h)
  exact Option.isSome_iff_exists.mp q

theorem inv_start {CX : CXT} {P : Program} {w : World} {K : PySem.W.Frag} {mg : Str → Option Value} {base : Heap} {N ps : List Str} {qual : Str} {scope : Scope} {f : Addr} {cd : Value} {A : Around} {outer : List Env} {s s1 : Shared} {H : Hp} {E : XK} {us : List Value} {vs : List V}
    (S : FnScope N ps scope) (hd : A.handled = none) (e0 : Env0 P w K mg base A outer s H) (hl : vs.length = ps.length) (r : Vals vs us)
    (x : InCallC s s.heap.objs.size (bindL (envOfC qual scope s.heap.objs.size f cd).kindOf (ps.zip us) fun _ => none) (cellsFrom (s.heap.objs.size + 1) scope.names []) (bindC (envOfC qual scope s.heap.objs.size f cd).kindOf (ps.zip us) fun _ => none) s1) :
    Inv (cxOf CX P w K mg base N qual scope f cd A outer s H E) [] (start N vs) H s1 := by
  have hpl : ps.length ≤ N.length := by have := congrArg List.length S.pre; rw [List.length_take] at this; omega
  obtain ⟨h1, tk, rfl, hk⟩ := x.done
  have noA : ∀ b : Addr, b ∉ (cxOf CX P w K mg base N qual scope f cd A outer s H E).ex := fun b z => absurd (show b ∈ ([] : List Addr) from z) (by simp)
  refine ⟨⟨e0.mod, S.kind, rfl, rfl, Nat.le_refl _, fun y z c h1 h2 => ?_, fun y hy => ?_, fun y c _ h => ?_, fun _ => hd, Around.frames_deeper e0.frames, .inr ⟨rfl, rfl⟩, fun b z => absurd z (noA b), e0.bs, e0.bsz, fun b _ _ => noA b, fun b z => absurd z (noA b), e0.funs, e0.frf⟩,
    rfl, e0.bare, Un.kept hk, ⟨_, x.toInCall.ns, fun i y v h1 h2 h3 => ?_⟩, fun y c h => ⟨_, x.cell y c h⟩, e0.hok.fresh (Nat.le_refl _), fun y c h => ?_, fun p hp => absurd (show p ∈ ([] : List (Addr × Obj)) from hp) (by simp), e0.hok.kept hk, ?_⟩
  · exact name_of_addr x.apart (PySem.mem_of_lookup h1) (PySem.mem_of_lookup h2)
  · have hy : scope.names.lookup y = some .cell ∨ scope.names.lookup y = some .free := hy
    rcases hy with hy | hy
    · exact cell_has hy
    · exact absurd rfl (S.nofree _ (PySem.mem_of_lookup hy))
  · exact Nat.le_of_lt (x.above y c (PySem.mem_of_lookup h))
  · have hi : i < vs.length := by
      unfold start at h2
      by_cases hi : i < vs.length
      · exact hi
      · rw [List.getElem?_append_right (by simpa using hi)] at h2
        rw [List.getElem?_replicate] at h2
        split at h2 <;> cases h2
    have ha : vs[i]? = some v := by
      unfold start at h2
      rw [List.getElem?_append_left (by simpa using hi), List.getElem?_map] at h2
      cases e : vs[i]? with
      | none => rw [e] at h2; cases h2
      | some a => rw [e] at h2; cases h2; rfl
    obtain ⟨u, hu, rv⟩ := r.get ha
    have hp : ps[i]? = some y := by
      rw [← S.pre, List.getElem?_take_of_lt (by omega)]; exact h1
    have ndP : ps.Nodup := by rw [← S.pre]; exact S.nd.sublist (List.take_sublist _ _)
    refine ⟨u, rv, ?_⟩
    rcases S.par y (List.mem_of_getElem? hp) with k | k
    · exact .inl ⟨k, bindL_get ndP hp hu k⟩
    · obtain ⟨c, e⟩ := cell_has (n := s.heap.objs.size + 1) k
      refine .inr ⟨.inl k, c, e, ?_⟩
      have q := x.cell y c e
      rw [bindC_get ndP hp hu (by show scope.names.lookup y ≠ _; rw [k]; decide)] at q
      exact q
  · exact e0.hok.fresh (Nat.le_of_lt (x.above y c (PySem.mem_of_lookup h)))
  · unfold start
    show _ = N.length
    rw [List.length_append, List.length_map, List.length_replicate]
    omega

/-- THE RULE: a def (or a method) of the text, by its body. The body's reading t is chosen for each entry; it is run at the parameters' values -/
theorem fn_of {CX : CXT} {P : Program} {w : World} {K : PySem.W.Frag} {mg : Str → Option Value} {base : Heap} {k : Nat} {f : Addr} {name qual : Str} {params : Arguments} {body : List Stmt} {scope : Scope} {dV kV doc pm cdv ct oc : Value} {an od : Option Addr}
    {osl : Array (Option Value)} {N ps : List Str} {sp : Sp} (lk : K.lookup f = some ⟨oc, od, .func (PySem.W.fnOf name qual params body scope dV kV doc pm an cdv ct), osl⟩) (hcd : PySem.W.codeIn K cdv qual = true) (S : FnScope N ps scope)
    (len : ∀ vs H Q E, sp vs H Q E → vs.length = ps.length)
    (hbody : ∀ (A : Around) (outer : List Env) (s : Shared) (H : Hp) (vs : List V) (Q : VK) (E : XK), Room k (A.deeper (envOfC qual scope s.heap.objs.size f cdv)) → sp vs H Q E →
      ∃ t, PSs (cxOf CX P w K mg base N qual scope f cdv A outer s H E) body t ∧ t { nx := fun _ H' => Q .non H', rt := Q } (start N vs) H) :
    FnOk P w K mg base CX (k + 1) f (PySem.W.fnOf name qual params body scope dV kV doc pm an cdv ct) ps sp := by
  refine ⟨len, fun A outer s H args us vs Q E hr e0 hb r hsp => ?_⟩
  have hl := len _ _ _ _ hsp
  have KX : K.In s.heap := e0.mod.kin.keeps fun b o e => (e0.bs b o e).1
  have lim : s.heap.NoLimit := e0.mod.nolimit.keeps fun b o e => (e0.bs b o e).1
  have hkind : ∀ y ∈ ps.zip us, scope.names.lookup y.1 = some .local ∨ (scope.names.lookup y.1 = some .cell ∧ ((cellsFrom (s.heap.objs.size + 1) scope.names []).lookup y.1).isSome = true) := fun ⟨n, v⟩ hy => by
    rcases S.par n (List.of_mem_zip hy).1 with q | q
    · exact .inl q
    · exact .inr ⟨q, PySem.W.cellsFrom_some _ _ _ (.inl q)⟩
  refine codeAny_call_function hr.depth (KX _ _ lk) rfl S.co S.gen rfl (PySem.W.codeRec_of KX hcd) (hb _ _ _ _ ?_)
  refine wpAny_newFunctionEnv_cells S.kind hkind fun env he s1 x => ?_
  subst he
  refine ⟨lim.keeps x.toInCall.keep, codeAny_func ?_⟩
  obtain ⟨t, ht, hq⟩ := hbody A outer s H vs Q E (hr.deeper _) hsp
  have I : Inv (cxOf CX P w K mg base N qual scope f cdv A outer s H E) [] (start N vs) H s1 := inv_start S hr.hd e0 hl r x
  refine wpAny_mono (ht [] s1 (start N vs) H _ I hq) (fun fl s' hs => ?_) fun e s' hs => hs
  have fin : ∀ {σ' : St} {H' : Hp} {v : V} {u : Value}, Inv (cxOf CX P w K mg base N qual scope f cdv A outer s H E) [] σ' H' s' → RelV v u → Q v H' → CE outer P w H s Q u s' :=
    fun {σ' H' v u} J rv q => ⟨v, H', J.os, J.bare, J.base, J.hok, rv, q⟩
  cases fl with
  | ret u =>
    obtain ⟨v, σ', H', J, rv, q⟩ := hs
    exact fin J rv q
  | next =>
    obtain ⟨σ', H', J, q⟩ := hs
    exact fin (v := V.non) (u := Value.none) J rfl q
  | brk =>
    obtain ⟨_, _, _, q⟩ := hs
    exact False.elim q
  | cont =>
    obtain ⟨_, _, _, q⟩ := hs
    exact False.elim q
end L2

namespace L2
open PySem PySem.Spec PyProof.Rows
section
variable {X : Cx} {x : Str} {p pos : Pos} {e : Expr} {es : List Expr} {t : TA} {id T : String} {r : List V → Hp → VK → Prop}

def tCB (r : List V → Hp → VK → Prop) (t : TA) : TE := fun σ H Q => t σ H fun vs H1 => r vs H1 Q
/-- f(e, ..), f a built-in function -/
theorem pe_callB (hc : CallR X (.builtin id) r) (hg : Gl X x) (hm : X.mg x = none) (hv : bootBuiltins x = some (.builtin id)) (ha : PA X (e :: es) t) (hn : x ≠ "__name__" := by decide) (hdb : (x == ("__debug__" : Str)) = false := by decide)
    (he : starEach (e :: es) X.env = (false, eval e X.env) :: starEach es X.env := by rfl) (hpl : (backTo pos (starEach es X.env)).any (·.1) = false := by rfl) : PE X (.Call (.Name x p) (e :: es) [] pos) (tCB r t) := by
  intro pins s σ H Q I h
  refine wpAny_Call_Name_kw (ld_blt I hg hm hv ?_ hn hdb)
  exact PyProof.Rows.callWith_builtin1 (thn (ha pos pins s σ H _ I h) fun us s1 ⟨vs, H1, I1, r1, q1⟩ => hc pins s1 σ H1 vs us Q I1 r1 q1) he hpl
/-- T(e, ..), T a built-in type -/
theorem pe_callTy (hc : CallR X (.type T) r) (hg : Gl X x) (hm : X.mg x = none) (hv : bootBuiltins x = some (.type T)) (ha : PA X (e :: es) t) (hn : x ≠ "__name__" := by decide) (hdb : (x == ("__debug__" : Str)) = false := by decide)
    (he : starEach (e :: es) X.env = (false, eval e X.env) :: starEach es X.env := by rfl) (hpl : (backTo pos (starEach es X.env)).any (·.1) = false := by rfl) : PE X (.Call (.Name x p) (e :: es) [] pos) (tCB r t) := by
  intro pins s σ H Q I h
  refine wpAny_Call_Name_kw (ld_blt I hg hm hv ?_ hn hdb)
  exact PyProof.Rows.callWith_type1 (thn (ha pos pins s σ H _ I h) fun us s1 ⟨vs, H1, I1, r1, q1⟩ => hc pins s1 σ H1 vs us Q I1 r1 q1) he hpl
/-- T() -/
theorem pe_callTy0 (hc : CallR X (.type T) r) (hg : Gl X x) (hm : X.mg x = none) (hv : bootBuiltins x = some (.type T)) (hn : x ≠ "__name__" := by decide) (hdb : (x == ("__debug__" : Str)) = false := by decide) :
    PE X (.Call (.Name x p) [] [] pos) (tCB r tNil) := by
  intro pins s σ H Q I h
  refine wpAny_Call_Name_kw (ld_blt I hg hm hv ?_ hn hdb)
  exact PyProof.Rows.callWith_type0 (hc pins s σ H [] [] Q I .nil h)
end
end L2

namespace HT
open PySem PyProof.Rows

/-- t < u of tuples of ints -/
def lexLt : List Int → List Int → Bool
  | [], [] => false
  | [], _ :: _ => true
  | _ :: _, [] => false
  | x :: xs, y :: ys => if x = y then lexLt xs ys else decide (x < y)
theorem lexLt_cons (x y : Int) (xs ys : List Int) : lexLt (x :: xs) (y :: ys) = if x = y then lexLt xs ys else decide (x < y) := rfl
theorem lexLt_nil_nil : lexLt [] [] = false := rfl
theorem lexLt_nil_cons (y : Int) (ys : List Int) : lexLt [] (y :: ys) = true := rfl
theorem lexLt_cons_nil (x : Int) (xs : List Int) : lexLt (x :: xs) [] = false := rfl

theorem eqAt_int (A : Around) (s : Shared) (a : Int) (t : Tok) (c : Int) (u : Tok) : ∃ e, SeqAt.EqAt A s (.int a t) (.int c u) e ∧ (e = true ↔ a = c) :=
  ⟨(a == c), SeqAt.EqAt.int_int a t c u, by simp⟩
theorem rcLt_int (A : Around) (s : Shared) (a : Int) (t : Tok) (c : Int) (u : Tok) (prog : Program) (w : World) (E : Value → Shared → Prop) (Q : Value → Shared → Prop) (h : Q (.bool (decide (a < c))) s) :
    wpAny (model prog w) A (richCompare .Lt (.int a t) (.int c u)) Q E s :=
  (PyProof.Rows.lt_int h : wpAny (model prog w) A (compareOp .Lt (.int a t) (.int c u)) Q E s)

section
open PySem.SeqAt
open PySem.AutoSeq1 (wpAny_loadPart')
open PySem.MeetsSeq PySem.MeetsSeq2 PySem.MeetsSeq3

theorem tuple_lt_ints (l b : Addr) (items items2 : Array Value) (n n2 : Nat) (dd dd2 : Option Addr) (sl sl2 : Array (Option Value)) (ns ms : List Int) (hi : IntsAre items.toList ns) (hj : IntsAre items2.toList ms) :
    Meets (Builtin.«tuple.__lt__» ⟨[.ref l, .ref b], []⟩)
      (fun _ R s => s.heap.get? l = some { cls := .type "tuple", dict := dd, data := .seq items n, slots := sl } ∧ s.heap.get? b = some { cls := .type "tuple", dict := dd2, data := .seq items2 n2, slots := sl2 } ∧
        R (.ok (.ret (.bool (lexLt ns ms)))) s) :=
  .of_wp fun prog w A R s h => by
    obtain ⟨hp, g, d, tk, os⟩ := s; obtain ⟨hl, hb, h⟩ := h
    have f2 := AutoSeq1.sub_tuple_tuple
    have z1 : items.size = ns.length := by rw [← hi.length]; simp
    have z2 : items2.size = ms.length := by rw [← hj.length]; simp
    wp_walk using wpAny_loadPart' hl, wpAny_loadPart' hb, wpAny_forIn_list _ (fun rest b s' => b.1 = none ∧ s' = ⟨hp, g, d, tk, os⟩ ∧ ∃ (vs ws : List Value) (ns' ms' : List Int), rest = vs.zip ws ∧
      IntsAre vs ns' ∧ IntsAre ws ms' ∧ ns'.length + items2.size = ms'.length + items.size ∧ R (.ok (.ret (.bool (lexLt ns' ms')))) ⟨hp, g, d, tk, os⟩) _
    case turn =>
      rintro ⟨y, x⟩ rest b s' ⟨hb', rfl, vs, ws, ns', ms', hz, hvi, hwi, hlen, hR⟩
      cases hvi with
      | nil => rw [List.zip_nil_left] at hz; cases hz
      | cons a t hvi' =>
        cases hwi with
        | nil => rw [List.zip_nil_right] at hz; cases hz
        | cons c u hwi' =>
          rw [List.zip_cons_cons] at hz
          injection hz with hyx hrest
          injection hyx with hy hx
          subst hy hx
          rw [lexLt_cons] at hR
          simp only [List.length_cons] at hlen
          obtain ⟨e, he, hiff⟩ := eqAt_int A.in1 ⟨hp, g, d, tk, os⟩ a t c u
          refine wpAny_bind (he prog w _ _ ?_)
          cases e with
          | true =>
            rw [if_pos (hiff.mp rfl)] at hR
            wp_walk
            exact ⟨rfl, rfl, _, _, _, _, hrest, hvi', hwi', by omega, hR⟩
          | false =>
            rw [if_neg (fun q => absurd (hiff.mpr q) Bool.false_ne_true)] at hR
            have hri := rcLt_int A.in1 ⟨hp, g, d, tk, os⟩ a t c u prog w
            wp_walk using hri
            exact ⟨_, rfl, by simpa using hR⟩
    case fin =>
      rintro ⟨b1, b2⟩ s' ⟨hb', rfl, vs, ws, ns', ms', hz, hvi, hwi, hlen, hR⟩
      simp only at hb'
      subst hb'
      have hv : lexLt ns' ms' = decide (items.size < items2.size) := by
        cases hvi with
        | nil =>
          cases hwi with
          | nil =>
            simp only [List.length_nil] at hlen
            rw [lexLt_nil_nil]
            exact (decide_eq_false (by omega)).symm
          | cons c u hw =>
            simp only [List.length_nil, List.length_cons] at hlen
            rw [lexLt_nil_cons]
            exact (decide_eq_true (by omega)).symm
        | cons a t hv =>
          cases hwi with
          | nil =>
            simp only [List.length_nil, List.length_cons] at hlen
            rw [lexLt_cons_nil]
            exact (decide_eq_false (by omega)).symm
          | cons c u hw =>
            rw [List.zip_cons_cons] at hz
            cases hz
      rw [hv] at hR
      wp_walk
      exact ⟨_, rfl, by simpa [Builtin.Tuple.tupleCompareSizes] using hR⟩
    case h =>
      exact ⟨rfl, rfl, items.toList, items2.toList, ns, ms, rfl, hi, hj, by omega, h⟩
end

section
variable {prog : Program} {w : World} {A : Around} {E : Value → Shared → Prop} {s : Shared}

theorem lt_tupInts {l b : Addr} {items items2 : Array Value} {ns ms : List Int} {Q : Value → Shared → Prop} (hl : IsTup s.heap l items) (hb : IsTup s.heap b items2) (hi : IntsAre items.toList ns) (hj : IntsAre items2.toList ms)
    (hu : A.units < cLine) (h : Q (.bool (lexLt ns ms)) s) : wpAny (model prog w) A (compareOp .Lt (.ref l) (.ref b)) Q E s := by
  obtain ⟨⟨cls, dd, data, sl⟩, ho, hc, n, hd⟩ := id hl
  obtain ⟨⟨cls2, dd2, data2, sl2⟩, ho2, hc2, n2, hd2⟩ := id hb
  simp only at hc hd hc2 hd2
  subst hc hd hc2 hd2
  exact richCompare_meets_room (op := .Lt) ⟨_, ho, rfl⟩ ⟨_, ho2, rfl⟩ PySem.F.slot_tuple_lt PySem.F.entry_tuple_lt (PySem.F.args_tuple_lt_2 _ _) (tuple_lt_ints l b items items2 n n2 dd dd2 sl sl2 ns ms hi hj)
    ⟨ho, ho2, show Value.bool (lexLt ns ms) ≠ Value.notImplemented ∧ Q (.bool (lexLt ns ms)) s from ⟨(fun x => nomatch x), h⟩⟩ hu

/-- t + u, t not empty -/
theorem cat_tup {t b : Addr} {vs ws : List Value} {Q : Value → Shared → Prop} (ht : IsTup s.heap t vs.toArray) (hb : IsTup s.heap b ws.toArray) (hv : vs ≠ [])
    (h1 : ws = [] → Q (.ref t) s) (h2 : ws ≠ [] → Q (.ref s.heap.objs.size) { s with heap := s.heap.push { cls := .type "tuple", data := .seq (vs ++ ws).toArray } })
    (hsz : vs.length + ws.length ≤ sizeLine) : wpAny (model prog w) A (binaryOp .Add (.ref t) (.ref b)) Q E s := by
  obtain ⟨⟨cls, dd, data, sl⟩, ho, hc, n, hd⟩ := id ht
  obtain ⟨⟨cls2, dd2, data2, sl2⟩, ho2, hc2, n2, hd2⟩ := id hb
  simp only at hc hd hc2 hd2
  subst hc hd hc2 hd2
  have e : vs.toArray ++ ws.toArray = (vs ++ ws).toArray := by simp
  by_cases hw : ws = []
  · exact concat_meets ⟨_, ho, rfl⟩ ⟨_, ho2, rfl⟩ noFill_tuple_add seq_tuple_add PySem.F.slot_tuple_add PySem.F.entry_tuple_add (PySem.F.args_tuple_add_2 _ _)
      (tuple_addW1 t b vs.toArray ws.toArray n n2 dd dd2 sl sl2 (by simpa using hv) (by simp [hw])) ⟨ho, ho2, h1 hw⟩
  · refine concat_meets ⟨_, ho, rfl⟩ ⟨_, ho2, rfl⟩ noFill_tuple_add seq_tuple_add PySem.F.slot_tuple_add PySem.F.entry_tuple_add (PySem.F.args_tuple_add_2 _ _)
      (tuple_addW2 t b vs.toArray ws.toArray n n2 dd dd2 sl sl2 (by simpa using hv) (by simpa using hw) (by rw [List.size_toArray, List.size_toArray]; exact hsz)) ⟨ho, ho2, ?_⟩
    rw [e]
    exact h2 hw

/-! ### t[a:b], not the whole -/
/-- a slice's bound as a place among n (d where it is left out) -/
def sIx (n d : Nat) : Option Int → Nat
  | none => d
  | some v => if v < 0 then (v + (n : Int)).toNat else min v.toNat n
theorem sIx_none (n d : Nat) : sIx n d none = d := rfl
theorem sIx_nat (n d k : Nat) : sIx n d (some (k : Int)) = min k n := by
  show (if (k : Int) < 0 then ((k : Int) + (n : Int)).toNat else min (k : Int).toNat n) = min k n
  rw [if_neg (by omega), Int.toNat_natCast]
theorem sIx_le (n d : Nat) (hd : d ≤ n) (o : Option Int) : sIx n d o ≤ n := by
  cases o with
  | none => exact hd
  | some v =>
    show (if v < 0 then (v + (n : Int)).toNat else min v.toNat n) ≤ n
    by_cases hv : v < 0
    · rw [if_pos hv]; omega
    · rw [if_neg hv]; exact Nat.min_le_right _ _
theorem clip_eq (v : Int) (n d : Nat) : (if v < 0 then max (v + (n : Int)) 0 else min v (n : Int)) = ((sIx n d (some v) : Nat) : Int) := by
  show (if v < 0 then max (v + (n : Int)) 0 else min v (n : Int)) = (((if v < 0 then (v + (n : Int)).toNat else min v.toNat n) : Nat) : Int)
  by_cases hv : v < 0
  · simp only [if_pos hv]; omega
  · simp only [if_neg hv]; omega
theorem adjust_gen (lo hi : Option Int) (n : Nat) : Builtin.Slice.sliceAdjust lo hi 1 (n : Int) = (((sIx n 0 lo : Nat) : Int), ((sIx n n hi : Nat) : Int)) := by
  have h1 : ¬ ((1 : Int) < 0) := by omega
  unfold Builtin.Slice.sliceAdjust
  simp only [h1, if_false]
  refine Prod.ext ?_ ?_
  · cases lo with
    | none => rfl
    | some v => exact clip_eq v n 0
  · cases hi with
    | none => rfl
    | some v => exact clip_eq v n n
theorem places_gen (i j : Nat) : Builtin.Slice.slicePlaces (i : Int) (j : Int) 1 = j - i := by
  unfold Builtin.Slice.slicePlaces
  have h1 : (1 : Int) > 0 := by omega
  simp only [h1, if_true, Int.ediv_one]
  split <;> omega
theorem slicePart_ {v : Value} {o : Option Int} {Q : Option Int → Shared → Prop} (p : IsPart v o) (h : Q o s) : wpAny (model prog w) A (Builtin.Slice.slicePartIndex v) Q E s := by
  cases p with
  | none => exact slicePart_none h
  | int i t => exact slicePart_int h
theorem sliceApplied_gen {sl : Addr} {vl vu : Value} {lo hi : Option Int} {n : Nat} {Q : Int × Int × Nat → Shared → Prop} (hs : s.heap.IsSliceOf sl vl vu .none) (pl : IsPart vl lo) (pu : IsPart vu hi)
    (h : Q (((sIx n 0 lo : Nat) : Int), 1, sIx n n hi - sIx n 0 lo) s) : wpAny (model prog w) A (Builtin.Slice.sliceApplied (.ref sl) (pure (n : Int))) Q E s := by
  obtain ⟨os, hos, hcs, hds⟩ := id hs
  unfold Builtin.Slice.sliceApplied Builtin.Slice.sliceFields
  refine wpAny_bind (wpAny_bind (wpAny_field hos hds (x := vl) rfl (wpAny_bind (wpAny_field hos hds (x := vu) rfl (wpAny_bind (wpAny_field hos hds (x := .none) rfl (wpAny_pure ?_)))))))
  refine wpAny_bind (slicePart_none ?_)
  show wpAny _ _ (if ((1 : Int) == 0) = true then _ else _) _ _ s
  rw [if_neg (by decide)]
  refine wpAny_bind (slicePart_ pl (wpAny_bind (slicePart_ pu (wpAny_bind (wpAny_pure ?_)))))
  show wpAny _ _ (match Builtin.Slice.sliceAdjust lo hi 1 (n : Int) with | (lo, hi) => pure (lo, (1 : Int), Builtin.Slice.slicePlaces lo hi 1)) _ _ s
  rw [adjust_gen lo hi n]
  show wpAny _ _ (pure (((sIx n 0 lo : Nat) : Int), (1 : Int), Builtin.Slice.slicePlaces ((sIx n 0 lo : Nat) : Int) ((sIx n n hi : Nat) : Int) 1)) _ _ s
  rw [places_gen]
  exact wpAny_pure h
theorem pick_gen (xs : Array Value) (i k : Nat) : ((List.range k).filterMap fun (m : Nat) => xs[((i : Int) + (m : Int) * 1).toNat]?).toArray = ((xs.toList.drop i).take k).toArray := by
  have e : (fun (m : Nat) => xs[((i : Int) + (m : Int) * 1).toNat]?) = fun m => xs[i + m]? := by
    funext m
    have : ((i : Int) + (m : Int) * 1).toNat = i + m := by omega
    rw [this]
  rw [e]
  have := pick_run xs i k
  rw [List.filterMap_map] at this
  have e2 : ((fun x => xs[x]?) ∘ fun x => i + x) = fun m => xs[i + m]? := rfl
  rw [e2] at this
  rw [this]

theorem getItem_tuple_cut {t sl : Addr} {items : Array Value} {vl vu : Value} {lo hi : Option Int} {Q : Value → Shared → Prop} (ht : IsTup s.heap t items) (hs : s.heap.IsSliceOf sl vl vu .none) (pl : IsPart vl lo) (pu : IsPart vu hi)
    (hw : ¬ (sIx items.size 0 lo = 0 ∧ sIx items.size items.size hi = items.size))
    (h : Q (.ref s.heap.objs.size) { s with heap := s.heap.push { cls := .type "tuple", data := .seq ((items.toList.drop (sIx items.size 0 lo)).take (sIx items.size items.size hi - sIx items.size 0 lo)).toArray } })
    (hsz : items.size ≤ sizeLine) : wpAny (model prog w) A (getItem (.ref t) (.ref sl)) Q E s := by
  have htake : sizeOk (.seq ((items.toList.drop (sIx items.size 0 lo)).take (sIx items.size items.size hi - sIx items.size 0 lo)).toArray) := by
    show ((items.toList.drop (sIx items.size 0 lo)).take (sIx items.size items.size hi - sIx items.size 0 lo)).toArray.size ≤ sizeLine
    rw [List.size_toArray, List.length_take, List.length_drop, Array.length_toList]
    omega
  have hj : sIx items.size items.size hi ≤ items.size := sIx_le _ _ (Nat.le_refl _) hi
  obtain ⟨os, hos, hcs, hds⟩ := id hs
  have hTs : s.TypeIs (.ref sl) "slice" := ⟨os, hos, hcs⟩
  unfold getItem
  try with_reducible refine wpAny_holding ?_
  first | refine wpAny_bind (wpAny_pure ?_) | skip
  refine wpAny_bind (wpAny_sequenceKey ht.typeIs (by decide) ?_)
  refine wpAny_bind (wpAny_callSpecial?_slot (name := Str.ofString "__getitem__") ht.typeIs PyProof.Rows.slot_tuple_getitem
    (wpAny_call_entry PyProof.Rows.slot_tuple_getitem ht.typeIs entry_tuple_getitem ?_ (args_tuple_getitem _ _)))
  show wpAny _ _ (Builtin.Tuple.tupleItemsOf (.ref t) >>= _) _ _ s
  refine wpAny_bind (tupleItemsOf_ ht ?_)
  refine wpAny_bind (wpAny_typeOf hTs ?_)
  rw [if_pos (by decide)]
  refine wpAny_bind (sliceApplied_gen hs pl pu ?_)
  have hno : ¬ ((((sIx items.size 0 lo : Nat) : Int) == 0 && (1 : Int) == 1 && (sIx items.size items.size hi - sIx items.size 0 lo) == items.size) = true) := by
    intro q
    rw [Bool.and_eq_true, Bool.and_eq_true] at q
    have q1 : ((sIx items.size 0 lo : Nat) : Int) = 0 := eq_of_beq q.1.1
    have q2 : sIx items.size items.size hi - sIx items.size 0 lo = items.size := eq_of_beq q.2
    exact hw ⟨by omega, by omega⟩
  show wpAny _ _ (if (((sIx items.size 0 lo : Nat) : Int) == 0 && (1 : Int) == 1 && (sIx items.size items.size hi - sIx items.size 0 lo) == items.size) = true then _ else _) _ _ s
  rw [if_neg hno, pick_gen]
  first
    | exact wpAny_bind (m := Builtin.Tuple.tupleExact _) (wpAny_newObj_type (wpAny_pure ⟨_, rfl, wpAny_pure h⟩) htake)
    | exact wpAny_bind (m := Builtin.Tuple.tupleExact _) (wpAny_newObj_type (wpAny_bind (wpAny_pure (wpAny_pure ⟨_, rfl, wpAny_pure h⟩))) htake)
    | exact wpAny_bind (wpAny_bind (m := Builtin.Tuple.tupleExact _) (wpAny_newObj_type (wpAny_pure (wpAny_pure ⟨_, rfl, wpAny_pure h⟩)) htake))
    | exact wpAny_bind (wpAny_bind (m := Builtin.Tuple.tupleExact _) (wpAny_newObj_type (wpAny_pure ⟨_, rfl, wpAny_pure h⟩) htake))
end
end HT

namespace L2
open PySem PySem.Spec PyProof.Rows

/-! ### the parts of a slice -/
abbrev TO := St → Hp → (Option Int → Hp → Prop) → Prop
/-- a slice's part (left out, or an int) -/
def PO (X : Cx) (e : Option Expr) (t : TO) : Prop :=
  ∀ (pins : List (Addr × Obj)) (s : Shared) (σ : St) (H : Hp) (Q : Option Int → Hp → Prop), Inv X pins σ H s → t σ H Q →
    wpAny (model X.prog X.w) X.A (evalPart e X.env) (fun u s' => ∃ o H', Inv X pins σ H' s' ∧ IsPart u o ∧ Q o H') X.xe s
def tNoPart : TO := fun _ H Q => Q none H
def tPart (t : TE) : TO := fun σ H Q => t σ H fun x H1 => ∃ i, x = .int i ∧ Q (some i) H1

theorem intsAre_of {ns : List Int} : ∀ {us : List Value}, Vals (ns.map V.int) us → IntsAre us ns := by
  induction ns with
  | nil => intro us r; rw [List.map_nil] at r; cases r; exact .nil
  | cons n ns ih =>
    intro us r
    rw [List.map_cons] at r
    cases r with
    | cons r1 r2 =>
      obtain ⟨t, e⟩ := r1
      subst e
      exact .cons n t (ih r2)

section
variable {X : Cx} {e : Expr} {te : TE} {lo hi : Option Expr} {tl th : TO} {pos p2 : Pos}

theorem po_none : PO X none tNoPart := by
  intro pins s σ H Q I h
  rw [evalPart_none]
  exact wpAny_pure ⟨none, H, I, .none, h⟩
theorem po_some (h : PE X e te) : PO X (some e) (tPart te) := by
  intro pins s σ H Q I hw
  rw [evalPart_some]
  refine thn (h pins s σ H _ I hw) fun u s1 ⟨x, H1, I1, r1, q1⟩ => ?_
  obtain ⟨i, rfl, q⟩ := q1
  obtain ⟨t, rfl⟩ := r1
  exact ⟨some i, H1, I1, .int i t, q⟩

/-- what a slice of a value is, by values: the slice object stands at sl -/
def SlR (X : Cx) (r : V → Option Int → Option Int → Hp → VK → Prop) : Prop :=
  ∀ (pins : List (Addr × Obj)) (s : Shared) (σ : St) (H : Hp) (x : V) (v vl vu : Value) (lo hi : Option Int) (sl : Addr) (Q : VK), Inv X pins σ H s → RelV x v → s.heap.IsSliceOf sl vl vu .none → IsPart vl lo → IsPart vu hi → r x lo hi H Q →
    ∃ T id, typeLookup (.type T) "__getitem__" = pure (some (.builtin id)) ∧ s.TypeIs v T ∧ wpAny (model X.prog X.w) X.A (getItem v (.ref sl)) (EP X pins σ Q) X.xe s
theorem SlR.or {r r' : V → Option Int → Option Int → Hp → VK → Prop} (h : SlR X r) (h' : SlR X r') : SlR X (fun x lo hi H Q => r x lo hi H Q ∨ r' x lo hi H Q) := by
  intro pins s σ H x v vl vu lo hi sl Q I rx hs pl pu q
  rcases q with q | q
  · exact h pins s σ H x v vl vu lo hi sl Q I rx hs pl pu q
  · exact h' pins s σ H x v vl vu lo hi sl Q I rx hs pl pu q
def tSl (r : V → Option Int → Option Int → Hp → VK → Prop) (te : TE) (tl th : TO) : TE := fun σ H Q => te σ H fun x H1 => tl σ H1 fun l H2 => th σ H2 fun u H3 => r x l u H3 Q
/-- a[lo:hi], any a -/
theorem pe_slice {r : V → Option Int → Option Int → Hp → VK → Prop} (hr : SlR X r) (he : PE X e te) (hl : PO X lo tl) (hu : PO X hi th) : PE X (.Subscript e (.Slice lo hi none p2) pos) (tSl r te tl th) := by
  intro pins s σ H Q I h
  refine Subscript_ (thn (he pins s σ H _ I h) fun v s1 ⟨x, H1, I1, r1, q1⟩ => ?_)
  refine wpAny_Slice (thn (hl pins s1 σ H1 _ I1 q1) fun vl s2 ⟨l, H2, I2, pl, q2⟩ => thn (hu pins s2 σ H2 _ I2 q2) fun vu s3 ⟨u, H3, I3, pu, q3⟩ => ?_)
  rw [evalPart_none]
  refine wpAny_pure ?_
  have I4 : Inv X pins σ H3 { s3 with heap := s3.heap.push { cls := .type "slice", data := .fields #[vl, vu, .none] } } := I3.kept (t' := s3.toks) fun b ob q => Heap.get?_push_of_some _ q
  obtain ⟨T, id, hT, ht, hg⟩ := hr pins { s3 with heap := s3.heap.push { cls := .type "slice", data := .fields #[vl, vu, .none] } } σ H3 x v vl vu l u s3.heap.objs.size Q I4 r1 (Heap.IsSliceOf.new ..) pl pu q3
  show wpAny (model X.prog X.w) X.A (subscriptTail e (.Slice lo hi none p2) v (.ref s3.heap.objs.size)) (EP X pins σ Q) X.xe { s3 with heap := s3.heap.push { cls := .type "slice", data := .fields #[vl, vu, .none] } }
  exact tail_any (ops := [.ref s3.heap.objs.size, v]) ht hT hg (by with_unfolding_all rfl)

/-- the items of xs[lo:hi] -/
def cutV (xs : List V) (lo hi : Option Int) : List V := (xs.drop (HT.sIx xs.length 0 lo)).take (HT.sIx xs.length xs.length hi - HT.sIx xs.length 0 lo)
theorem cutV_length (xs : List V) (lo hi : Option Int) : (cutV xs lo hi).length ≤ xs.length := by
  unfold cutV
  rw [List.length_take, List.length_drop]
  omega
/-- t[lo:hi], not the whole of it (the whole would be t itself) -/
def rSlT (K : PySem.W.Frag) : V → Option Int → Option Int → Hp → VK → Prop := fun x lo hi H Q => ∃ a xs, x = .ref a ∧ SqT K H a xs ∧
  ¬ (HT.sIx xs.length 0 lo = 0 ∧ HT.sIx xs.length xs.length hi = xs.length) ∧ ∀ p, H p = none → Q (.ref p) (upd H p (.tup (cutV xs lo hi)))
theorem sl_tup : SlR X (rSlT X.K) := by
  intro pins s σ H x v vl vu lo hi sl Q I rx hs pl pu h
  obtain ⟨a, xs, rfl, hx, hw, q⟩ := h
  cases rx
  obtain ⟨its, r, ht, hz⟩ := I.tuple hx
  have hlen : its.toArray.size = xs.length := by rw [List.size_toArray]; exact r.length.symm
  refine ⟨"tuple", _, PyProof.Rows.slot_tuple_getitem.lookup, ht.typeIs, ?_⟩
  refine HT.getItem_tuple_cut ht hs pl pu (by rw [hlen]; exact hw) ?_ (by rw [hlen]; exact hz)
  rw [hlen]
  refine ⟨.ref s.heap.objs.size, _, I.laid (t' := s.toks) (o := .tup (cutV xs lo hi)) (fun b ob q => Heap.get?_push_of_some _ q) (Nat.le_refl _) ?_, rfl, q _ (I.hok.fresh (Nat.le_refl _))⟩
  exact ⟨Nat.le_trans (cutV_length xs lo hi) hz, _, (r.drop (HT.sIx xs.length 0 lo)).take (HT.sIx xs.length xs.length hi - HT.sIx xs.length 0 lo), IsTup.new _ _⟩

/-! ### t < u, t + u -/
def rLtT (K : PySem.W.Frag) : R2 := fun x y H Q => ∃ a b ns ms, x = .ref a ∧ y = .ref b ∧ SqT K H a (ns.map V.int) ∧ SqT K H b (ms.map V.int) ∧ Q (.bl (HT.lexLt ns ms)) H
theorem op_ltT (hu : X.A.units < cLine) : OpR X (compareOp .Lt) (rLtT X.K) := by
  intro pins s σ H x y v u Q I rx ry h
  obtain ⟨a, b, ns, ms, rfl, rfl, ha, hb, q⟩ := h
  cases rx
  cases ry
  obtain ⟨its, r1, p1, _⟩ := I.tuple ha
  obtain ⟨its2, r2, p2, _⟩ := I.tuple hb
  have i1 : IntsAre its.toArray.toList ns := intsAre_of r1
  have i2 : IntsAre its2.toArray.toList ms := intsAre_of r2
  exact HT.lt_tupInts p1 p2 i1 i2 hu ⟨.bl (HT.lexLt ns ms), H, I, rfl, q⟩
/-- t + u, t not empty: u empty gives t itself -/
def rCatT (K : PySem.W.Frag) : R2 := fun x y H Q => ∃ a b xs ys, x = .ref a ∧ y = .ref b ∧ SqT K H a xs ∧ SqT K H b ys ∧ xs ≠ [] ∧ xs.length + ys.length ≤ sizeLine ∧
  (ys = [] → Q (.ref a) H) ∧ (ys ≠ [] → ∀ p, H p = none → Q (.ref p) (upd H p (.tup (xs ++ ys))))
theorem Vals.nil_iff {xs : List V} {us : List Value} (r : Vals xs us) : us = [] ↔ xs = [] := by
  cases r with
  | nil => simp
  | cons _ _ => simp
theorem op_catT : OpR X (binaryOp .Add) (rCatT X.K) := by
  intro pins s σ H x y v u Q I rx ry h
  obtain ⟨a, b, xs, ys, rfl, rfl, ha, hb, hx, hz, q1, q2⟩ := h
  cases rx
  cases ry
  obtain ⟨its, r1, p1, _⟩ := I.tuple ha
  obtain ⟨its2, r2, p2, _⟩ := I.tuple hb
  refine HT.cat_tup p1 p2 (fun z => hx (r1.nil_iff.mp z)) (fun z => ⟨.ref a, H, I, rfl, q1 (r2.nil_iff.mp z)⟩) (fun z => ?_) (by rw [← r1.length, ← r2.length]; exact hz)
  refine ⟨.ref s.heap.objs.size, _, I.laid (t' := s.toks) (o := .tup (xs ++ ys)) (fun b ob q => Heap.get?_push_of_some _ q) (Nat.le_refl _) ?_, rfl, q2 (fun w => z (r2.nil_iff.mpr w)) _ (I.hok.fresh (Nat.le_refl _))⟩
  exact ⟨by rw [List.length_append]; exact hz, _, r1.append r2, IsTup.new _ _⟩
/-- tuple(t) -/
theorem call_tupleT : CallR X (.type "tuple") (fun xs H Q => ∃ a ys, xs = [.ref a] ∧ SqT X.K H a ys ∧ Q (.ref a) H) := by
  intro pins s σ H xs us Q I r h
  obtain ⟨a, ys, rfl, ha, q⟩ := h
  obtain ⟨u, rfl, ru⟩ := vals1 r
  cases ru
  obtain ⟨its, _, p1, _⟩ := I.tuple ha
  exact call_tuple_same (items := its.toArray) p1 ⟨.ref a, H, I, rfl, q⟩
end
end L2

namespace L2
open PySem PySem.Spec PyProof.Rows

/-! ### places -/
/-- the place that an index of any sign means -/
def ixN (n : Nat) (i : Int) : Option Nat := if 0 ≤ i then (if i < n then some i.toNat else none) else if -(n : Int) ≤ i then some (i + n).toNat else none
def atI {α : Type} (xs : List α) (i : Int) : Option α := (ixN xs.length i).bind fun j => xs[j]?
theorem ixN_seq {n : Nat} {i : Int} {j : Nat} (h : ixN n i = some j) : seqIndex? i n = some j ∧ j < n ∧ -(n : Int) ≤ i ∧ i < n := by
  unfold ixN at h
  by_cases h0 : 0 ≤ i
  · rw [if_pos h0] at h
    by_cases h1 : i < n
    · rw [if_pos h1] at h
      have e : i.toNat = j := Option.some.inj h
      exact ⟨by rw [seqIndex_of h0 h1, e], by omega, by omega, h1⟩
    · rw [if_neg h1] at h; cases h
  · rw [if_neg h0] at h
    by_cases h1 : -(n : Int) ≤ i
    · rw [if_pos h1] at h
      have e : (i + n).toNat = j := Option.some.inj h
      exact ⟨by rw [seqIndex_neg (by omega) h1, e], by omega, h1, by omega⟩
    · rw [if_neg h1] at h; cases h
theorem atI_get {α : Type} {xs : List α} {i : Int} {v : α} (h : atI xs i = some v) : ∃ j, seqIndex? i xs.length = some j ∧ xs[j]? = some v ∧ j < xs.length ∧ -(xs.length : Int) ≤ i ∧ i < xs.length := by
  unfold atI at h
  cases e : ixN xs.length i with
  | none => rw [e] at h; cases h
  | some j =>
    rw [e] at h
    obtain ⟨h1, h2, h3, h4⟩ := ixN_seq e
    exact ⟨j, h1, h, h2, h3, h4⟩
theorem atI_nat {α : Type} {xs : List α} {j : Nat} {v : α} (h : xs[j]? = some v) : atI xs (j : Int) = some v := by
  have hj : j < xs.length := (List.getElem?_eq_some_iff.mp h).1
  have e : ixN xs.length (j : Int) = some j := by
    unfold ixN
    rw [if_pos (by omega), if_pos (by omega)]; simp
  unfold atI; rw [e]; exact h
theorem atI_last {α : Type} (xs : List α) (v : α) : atI (xs ++ [v]) (-1) = some v := by
  have hl : (xs ++ [v]).length = xs.length + 1 := by simp
  have e : ixN (xs ++ [v]).length (-1) = some xs.length := by
    unfold ixN
    rw [hl, if_neg (by decide), if_pos (by omega)]
    congr 1
    omega
  unfold atI
  rw [e]
  show (xs ++ [v])[xs.length]? = some v
  simp

/-! ### what may be subscripted -/
/-- what stands as an index of a plain subscript -/
def PlainIx (b : Expr) : Prop := ∀ o i, subscripted b false o i = operate [o, i] (getItem o i)
/-- a subscript by values -/
def IxR (X : Cx) (r : R2) : Prop :=
  ∀ (value slice : Expr) (pins : List (Addr × Obj)) (s : Shared) (σ : St) (H : Hp) (x y : V) (v u : Value) (Q : VK), Inv X pins σ H s → RelV x v → RelV y u → r x y H Q →
    subscripted slice false v u = operate [v, u] (getItem v u) → wpAny (model X.prog X.w) X.A (subscriptTail value slice v u) (EP X pins σ Q) X.xe s
/-- a call of a builtin's method by values: the receiver, the arguments -/
def MtR (X : Cx) (id : String) (r : V → List V → Hp → VK → Prop) : Prop :=
  ∀ (pins : List (Addr × Obj)) (s : Shared) (σ : St) (H : Hp) (x : V) (xs : List V) (v : Value) (us : List Value) (Q : VK), Inv X pins σ H s → RelV x v → Vals xs us → r x xs H Q →
    wpAny (model X.prog X.w) X.A (call (.builtin id) (v :: us)) (EP X pins σ Q) X.xe s
section
variable {X : Cx} {a b : Expr} {ta tb : TE} {pos : Pos}
theorem IxR.or {r r' : R2} (h : IxR X r) (h' : IxR X r') : IxR X (fun x y H Q => r x y H Q ∨ r' x y H Q) := by
  intro value slice pins s σ H x y v u Q I rx ry q hs
  rcases q with q | q
  · exact h value slice pins s σ H x y v u Q I rx ry q hs
  · exact h' value slice pins s σ H x y v u Q I rx ry q hs
theorem MtR.or {id : String} {r r' : V → List V → Hp → VK → Prop} (h : MtR X id r) (h' : MtR X id r') : MtR X id (fun x xs H Q => r x xs H Q ∨ r' x xs H Q) := by
  intro pins s σ H x xs v us Q I rx rs q
  rcases q with q | q
  · exact h pins s σ H x xs v us Q I rx rs q
  · exact h' pins s σ H x xs v us Q I rx rs q
/-- a[b] -/
theorem pe_ix {r : R2} (hr : IxR X r) (ha : PE X a ta) (hb : PE X b tb) (hs : PlainIx b) : PE X (.Subscript a b pos) (tOp r ta tb) := by
  intro pins s σ H Q I h
  exact Subscript_ (binT ha hb I h fun v u s2 x y H2 I2 rx ry q => hr a b pins s2 σ H2 x y v u Q I2 rx ry q (hs _ _))

def rIxL (K : PySem.W.Frag) : R2 := fun x y H Q => ∃ p xs i v, x = .ref p ∧ y = .int i ∧ SqL K H p xs ∧ atI xs i = some v ∧ Q v H
def rIxT (K : PySem.W.Frag) : R2 := fun x y H Q => ∃ p xs i v, x = .ref p ∧ y = .int i ∧ SqT K H p xs ∧ atI xs i = some v ∧ Q v H
def rIxS : R2 := fun x y H Q => ∃ z i c, x = .str z ∧ y = .int i ∧ z.length ≤ sizeLine ∧ atI z.cps.toList i = some c ∧ Q (.str ⟨#[c]⟩) H
theorem ix_list : IxR X (rIxL X.K) := by
  intro value slice pins s σ H x y v u Q I rx ry h hs
  obtain ⟨p, xs, i, z, rfl, rfl, hq, he, q⟩ := h
  cases rx
  obtain ⟨t, rfl⟩ := ry
  obtain ⟨its, r, pl, hz⟩ := I.list hq
  obtain ⟨j, h1, h2, h3, h4, h5⟩ := atI_get he
  obtain ⟨w, ew, rw'⟩ := r.get h2
  have hl := r.length
  have hn := line63
  have fin : EP X pins σ Q w s := ⟨z, H, I, rw', q⟩
  by_cases h0 : 0 ≤ i
  · have hj : i.toNat = j := by
      rw [seqIndex_of h0 h5] at h1
      exact Option.some.inj h1
    exact item_listR pl.isList h0 (by omega) (by rw [hj]; simpa using ew) fin hs
  · have hj : (i + (its.toArray.size : Int)).toNat = j := by
      rw [seqIndex_neg (by omega) h4] at h1
      rw [List.size_toArray, ← hl]
      exact Option.some.inj h1
    exact subscriptTail_builtinR (x := w) pl.isList.typeIs slot_list_getitem.lookup
      (wpAny_getItem_list_neg (Q := fun r s' => r = w ∧ EP X pins σ Q r s') pl.isList (by omega) (by rw [List.size_toArray] <;> omega) (by omega) (by rw [hj]; simpa using ew) ⟨rfl, fin⟩) hs
theorem ix_tup : IxR X (rIxT X.K) := by
  intro value slice pins s σ H x y v u Q I rx ry h hs
  obtain ⟨p, xs, i, z, rfl, rfl, hq, he, q⟩ := h
  cases rx
  obtain ⟨t, rfl⟩ := ry
  obtain ⟨its, r, pl, hz⟩ := I.tuple hq
  obtain ⟨j, h1, h2, h3, h4, h5⟩ := atI_get he
  obtain ⟨w, ew, rw'⟩ := r.get h2
  have hl := r.length
  have hn := line63
  have fin : EP X pins σ Q w s := ⟨z, H, I, rw', q⟩
  exact subscriptTail_builtinR (x := w) pl.typeIs slot_tuple_getitem.lookup
    (getItem_tuple (j := j) (Q := fun r s' => r = w ∧ EP X pins σ Q r s') pl (by omega) (by omega) (by rw [List.size_toArray, ← hl]; exact h1) (by simpa using ew) ⟨rfl, fin⟩) hs
theorem ix_str : IxR X rIxS := by
  intro value slice pins s σ H x y v u Q I rx ry h hs
  obtain ⟨z, i, c, rfl, rfl, hz, he, q⟩ := h
  obtain ⟨t, rfl⟩ := rx
  obtain ⟨t', rfl⟩ := ry
  obtain ⟨j, h1, h2, h3, h4, h5⟩ := atI_get he
  have hl : z.cps.toList.length = z.length := by simp [Str.length]
  rw [hl] at h1 h4 h5
  have hn := line63
  exact tail_any (typeIs_str s z t) slot_str_getitem.lookup (getItem_str (c := c) (by
    have e1 : decide (i < -(2 ^ 63 : Int)) = false := decide_eq_false (by omega)
    have e2 : decide (i ≥ 2 ^ 63) = false := decide_eq_false (by omega)
    rw [e1, e2, Bool.or_false]) (by rw [h1]; simpa using h2) ⟨.str ⟨#[c]⟩, H, I.tok _, ⟨_, rfl⟩, q⟩) hs
/-- list, tuple or str -/
def rIx (K : PySem.W.Frag) : R2 := fun x y H Q => rIxL K x y H Q ∨ rIxT K x y H Q ∨ rIxS x y H Q
theorem ix_seq : IxR X (rIx X.K) := ix_list.or (ix_tup.or ix_str)

/-! ### xs[i] = v, any sign -/
/-- the list's object behind a store -/
theorem mapSeq_set (its : List Value) (n j : Nat) (u : Value) : Obj.mapSeq (·.setIfInBounds j u) { cls := .type "list", data := .seq its.toArray n } = { cls := .type "list", data := .seq (its.set j u).toArray n } := by
  simp [Obj.mapSeq]
theorem Inv.lst {pins : List (Addr × Obj)} {σ : St} {H : Hp} {s : Shared} {p : Addr} {xs : List V} (I : Inv X pins σ H s) (h : H p = some (.lst xs)) :
    ∃ (its : List Value) (n : Nat), Vals xs its ∧ s.heap.get? p = some { cls := .type "list", data := .seq its.toArray n } ∧ xs.length ≤ sizeLine := by
  obtain ⟨z, its, n, r, e⟩ := I.hok p _ h
  exact ⟨its, n, r, e, z⟩
/-- the list at p is written by an update of its object -/
theorem Inv.lstUpd {pins : List (Addr × Obj)} {σ : St} {H : Hp} {s : Shared} {p : Addr} {xs ys : List V} {its its' : List Value} {n n' : Nat} {f : Obj → Obj} (I : Inv X pins σ H s) (h : H p = some (.lst xs))
    (ho : s.heap.get? p = some { cls := .type "list", data := .seq its.toArray n }) (hf : f { cls := .type "list", data := .seq its.toArray n } = { cls := .type "list", data := .seq its'.toArray n' }) (r : Vals ys its') (hz : ys.length ≤ sizeLine) (t : Nat) :
    Inv X pins σ (upd H p (.lst ys)) { s with heap := s.heap.update p f, toks := t } := by
  have e : (s.heap.update p f).get? p = some { cls := .type "list", data := .seq its'.toArray n' } := by
    rw [Heap.get?_update_self f ho (by rw [hf] <;> rfl), hf]
  refine I.write (x := p) (e := p) (by rw [h]; trivial) (.inl rfl) (fun b u hb q => (Heap.get?_update_other _ _ (Ne.symm hb)).trans q) ⟨_, e⟩ ?_
  exact ⟨hz, its', n', r, e⟩
def rSetL : V → V → V → Hp → (Hp → Prop) → Prop := fun o i v H Q => ∃ p xs k j, o = .ref p ∧ i = .int k ∧ H p = some (.lst xs) ∧ ixN xs.length k = some j ∧ Q (upd H p (.lst (xs.set j v)))
theorem set_list : PSet X rSetL := by
  intro pins s σ H o i v ov iv u Q I ro ri rv h
  obtain ⟨p, xs, k, j, rfl, rfl, hp, hj, q⟩ := h
  cases ro
  obtain ⟨t, rfl⟩ := ri
  obtain ⟨its, n, r, ho, hz⟩ := I.lst hp
  obtain ⟨h1, h2, h3, h4⟩ := ixN_seq hj
  have hl := r.length
  have hn := line63
  have I' : Inv X pins σ (upd H p (.lst (xs.set j v))) { s with heap := s.heap.update p (Obj.mapSeq (·.setIfInBounds j u)) } :=
    I.lstUpd hp ho (mapSeq_set its n j u) (r.set rv j) (by rw [List.length_set]; exact hz) s.toks
  by_cases h0 : 0 ≤ k
  · have hk : k.toNat = j := by
      rw [seqIndex_of h0 h4] at h1
      exact Option.some.inj h1
    exact PySem.W.ki_setAt ho h0 (by omega) (by rw [List.size_toArray, ← hl]; exact h4) (by rw [hk]; exact ⟨_, I', q⟩)
  · have hk : (k + (its.toArray.size : Int)).toNat = j := by
      rw [seqIndex_neg (by omega) h3] at h1
      rw [List.size_toArray, ← hl]
      exact Option.some.inj h1
    exact PySem.W.ki_setBack ho (by omega) (by rw [List.size_toArray, ← hl]; exact h3) (by omega) (by rw [hk]; exact ⟨_, I', q⟩)

/-! ### slices -/
theorem slice_bounds (lo hi : Option Int) (n : Nat) : (sliceBounds lo hi none n).1 = ((HT.sIx n 0 lo : Nat) : Int) ∧ (sliceBounds lo hi none n).2.1 = ((HT.sIx n n hi : Nat) : Int) ∧ (sliceBounds lo hi none n).2.2 = 1 := by
  refine ⟨?_, ?_, rfl⟩
  · cases lo with
    | none => simp [sliceBounds, HT.sIx]
    | some i =>
      simp only [sliceBounds, HT.sIx, Option.getD_none, show (1 : Int) > 0 by decide, if_true]
      by_cases h : i < 0
      · simp only [h, if_true] <;> omega
      · simp only [h, if_false] <;> omega
  · cases hi with
    | none => simp [sliceBounds, HT.sIx]
    | some i =>
      simp only [sliceBounds, HT.sIx, Option.getD_none, show (1 : Int) > 0 by decide, if_true]
      by_cases h : i < 0
      · simp only [h, if_true] <;> omega
      · simp only [h, if_false] <;> omega
theorem slicePick_cut (its : List Value) (lo hi : Option Int) : slicePick its.toArray lo hi none = ((its.drop (HT.sIx its.length 0 lo)).take (HT.sIx its.length its.length hi - HT.sIx its.length 0 lo)).toArray := by
  obtain ⟨h1, h2, h3⟩ := slice_bounds lo hi its.toArray.size
  unfold slicePick
  rw [h1, h2, h3]
  simp only [sliceRange_one, pick_run, List.size_toArray] <;> rfl
/-- xs[lo:hi] of a list: a new list -/
def rSlL (K : PySem.W.Frag) : V → Option Int → Option Int → Hp → VK → Prop := fun x lo hi H Q => ∃ a xs, x = .ref a ∧ SqL K H a xs ∧ ∀ p, H p = none → Q (.ref p) (upd H p (.lst (cutV xs lo hi)))
theorem sl_list : SlR X (rSlL X.K) := by
  intro pins s σ H x v vl vu lo hi sl Q I rx hs pl pu h
  obtain ⟨a, xs, rfl, hx, q⟩ := h
  cases rx
  obtain ⟨its, r, ht, hz⟩ := I.list hx
  have hlen := r.length
  refine ⟨"list", _, slot_list_getitem.lookup, ht.isList.typeIs, ?_⟩
  refine wpAny_getItem_list_slice ht.isList hs pl pu .none (by simp) ?_ (by rw [List.size_toArray] <;> omega)
  rw [slicePick_cut, ← hlen]
  refine ⟨.ref s.heap.objs.size, _, I.laid (t' := s.toks) (o := .lst (cutV xs lo hi)) (fun b ob q => Heap.get?_push_of_some _ q) (Nat.le_refl _) ?_, rfl, q _ (I.hok.fresh (Nat.le_refl _))⟩
  exact ⟨Nat.le_trans (cutV_length xs lo hi) hz, _, 0, (r.drop (HT.sIx xs.length 0 lo)).take (HT.sIx xs.length xs.length hi - HT.sIx xs.length 0 lo), Heap.get?_push_size _ rfl⟩

/-! ### in, not in: flat items -/
def flatV : V → Bool
  | .non => true
  | .bl _ => true
  | .int _ => true
  | .str _ => true
  | _ => false
/-- == of flat values -/
def eqV : V → V → Bool
  | .non, .non => true
  | .bl a, .bl b => a == b
  | .bl a, .int b => (if a then 1 else 0) == b
  | .int a, .bl b => a == (if b then 1 else 0)
  | .int a, .int b => a == b
  | .str a, .str b => a == b
  | _, _ => false
theorem eqAt_V {A : Around} {s : Shared} {y x : V} {u v : Value} (ry : RelV y u) (rx : RelV x v) (fy : flatV y = true) (fx : flatV x = true) : SeqAt.EqAt A s u v (eqV y x) := by
  cases y with
  | non =>
    cases ry
    cases x with
    | non => cases rx; exact SeqAt.EqAt.same _
    | bl b => cases rx; exact SeqAt.EqAt.none_bool b
    | int b => obtain ⟨t, rfl⟩ := rx; exact SeqAt.EqAt.none_int b t
    | str b => obtain ⟨t, rfl⟩ := rx; exact SeqAt.EqAt.none_str b t
    | _ => exact absurd (show false = true from fx) Bool.false_ne_true
  | bl a =>
    cases ry
    cases x with
    | non => cases rx; exact SeqAt.EqAt.bool_none a
    | bl b => cases rx; exact SeqAt.EqAt.bool_bool a b
    | int b => obtain ⟨t, rfl⟩ := rx; exact SeqAt.EqAt.bool_int a b t
    | str b => obtain ⟨t, rfl⟩ := rx; exact SeqAt.EqAt.bool_str a b t
    | _ => exact absurd (show false = true from fx) Bool.false_ne_true
  | int a =>
    obtain ⟨t', rfl⟩ := ry
    cases x with
    | non => cases rx; exact SeqAt.EqAt.int_none a t'
    | bl b => cases rx; exact SeqAt.EqAt.int_bool a t' b
    | int b => obtain ⟨t, rfl⟩ := rx; exact SeqAt.EqAt.int_int a t' b t
    | str b => obtain ⟨t, rfl⟩ := rx; exact SeqAt.EqAt.int_str a t' b t
    | _ => exact absurd (show false = true from fx) Bool.false_ne_true
  | str a =>
    obtain ⟨t', rfl⟩ := ry
    cases x with
    | non => cases rx; exact SeqAt.EqAt.str_none a t'
    | bl b => cases rx; exact SeqAt.EqAt.str_bool a t' b
    | int b => obtain ⟨t, rfl⟩ := rx; exact SeqAt.EqAt.str_int a t' b t
    | str b => obtain ⟨t, rfl⟩ := rx; exact SeqAt.EqAt.str_str a t' b t
    | _ => exact absurd (show false = true from fx) Bool.false_ne_true
  | _ => exact absurd (show false = true from fy) Bool.false_ne_true
/-- the items' answers, read off the values (a value's own answer does not lean on its token) -/
def eqU (x : V) (u : Value) : Bool := match u with
  | .none => eqV .non x
  | .bool b => eqV (.bl b) x
  | .int i _ => eqV (.int i) x
  | .str z _ => eqV (.str z) x
  | _ => false
theorem eqU_of {x y : V} {u : Value} (r : RelV y u) (f : flatV y = true) : eqU x u = eqV y x := by
  cases y with
  | non => cases r; rfl
  | bl b => cases r; rfl
  | int i => obtain ⟨t, rfl⟩ := r; rfl
  | str z => obtain ⟨t, rfl⟩ := r; rfl
  | _ => exact absurd (show false = true from f) Bool.false_ne_true
theorem any_eqU {x : V} : ∀ {xs : List V} {us : List Value}, Vals xs us → xs.all flatV = true → us.any (eqU x) = xs.any fun y => eqV y x
  | _, _, .nil, _ => rfl
  | y :: xs, u :: us, .cons r t, f => by
    rw [List.all_cons, Bool.and_eq_true] at f
    rw [List.any_cons, List.any_cons, eqU_of r f.1, any_eqU t f.2]
theorem mem_eqAt {A : Around} {s : Shared} {x : V} {v : Value} (rx : RelV x v) (fx : flatV x = true) : ∀ {xs : List V} {us : List Value}, Vals xs us → xs.all flatV = true → ∀ u ∈ us, SeqAt.EqAt A s u v (eqU x u)
  | _, _, .nil, _ => fun u hu => by cases hu
  | y :: xs, u :: us, .cons r t, f => fun u' hu => by
    rw [List.all_cons, Bool.and_eq_true] at f
    rcases List.mem_cons.mp hu with rfl | hu
    · rw [eqU_of r f.1]; exact eqAt_V r rx f.1 fx
    · exact mem_eqAt rx fx t f.2 u' hu
def inV (x : V) (xs : List V) : Bool := xs.any fun y => eqV y x
/-- x in a list or tuple of flat items -/
def rIn (K : PySem.W.Frag) (neg : Bool) : R2 := fun x y H Q => ∃ p xs, y = .ref p ∧ (SqL K H p xs ∨ SqT K H p xs) ∧ flatV x = true ∧ xs.all flatV = true ∧ Q (.bl (if neg then !inV x xs else inV x xs)) H
theorem op_in_seq : OpR X (compareOp .In) (rIn X.K false) := by
  intro pins s σ H x y v u Q I rx ry h
  obtain ⟨p, xs, rfl, hq, fx, fs, q⟩ := h
  cases ry
  rcases hq with hq | hq
  · obtain ⟨its, r, pl, hz⟩ := I.list hq
    refine SeqAt.in_listAt (eqU x) pl.isList (fun w hw => mem_eqAt rx fx r fs w (by simpa using hw)) ⟨.bl _, H, I, rfl, ?_⟩
    rw [show its.toArray.any (eqU x) = its.any (eqU x) by simp, any_eqU r fs]
    exact q
  · obtain ⟨its, r, pl, hz⟩ := I.tuple hq
    refine SeqAt.in_tupleAt (eqU x) pl (fun w hw => mem_eqAt rx fx r fs w (by simpa using hw)) ⟨.bl _, H, I, rfl, ?_⟩
    rw [show its.toArray.any (eqU x) = its.any (eqU x) by simp, any_eqU r fs]
    exact q
theorem op_notIn_seq : OpR X (compareOp .NotIn) (rIn X.K true) := by
  intro pins s σ H x y v u Q I rx ry h
  obtain ⟨p, xs, rfl, hq, fx, fs, q⟩ := h
  cases ry
  rcases hq with hq | hq
  · obtain ⟨its, r, pl, hz⟩ := I.list hq
    refine SeqAt.notIn_listAt (eqU x) pl.isList (fun w hw => mem_eqAt rx fx r fs w (by simpa using hw)) ⟨.bl _, H, I, rfl, ?_⟩
    rw [show its.toArray.any (eqU x) = its.any (eqU x) by simp, any_eqU r fs]
    exact q
  · obtain ⟨its, r, pl, hz⟩ := I.tuple hq
    refine SeqAt.notIn_tupleAt (eqU x) pl (fun w hw => mem_eqAt rx fx r fs w (by simpa using hw)) ⟨.bl _, H, I, rfl, ?_⟩
    rw [show its.toArray.any (eqU x) = its.any (eqU x) by simp, any_eqU r fs]
    exact q
theorem op_notIn_str : OpR X (compareOp .NotIn) (fun x y H Q => ∃ i j, x = .str i ∧ y = .str j ∧ Q (.bl (!(!(Builtin.Str.occurrences j i 0 j.length 1).isEmpty))) H) := by
  intro pins s σ H x y v u Q I rx ry h
  obtain ⟨i, j, rfl, rfl, q⟩ := h
  obtain ⟨t, rfl⟩ := rx
  obtain ⟨t', rfl⟩ := ry
  exact notIn_str ⟨.bl _, H, I, rfl, q⟩

/-! ### len, list(x), tuple(x) of any list or tuple that is read -/
theorem call_len_seq : CallR X (.builtin "len") (fun xs H Q => ∃ p ys, xs = [.ref p] ∧ (SqL X.K H p ys ∨ SqT X.K H p ys) ∧ Q (.int ys.length) H) := by
  intro pins s σ H xs us Q I r h
  obtain ⟨p, ys, rfl, hq, q⟩ := h
  obtain ⟨u, rfl, rx⟩ := vals1 r
  cases rx
  have hn := line63
  rcases hq with hq | hq
  · obtain ⟨its, r', pl, hz⟩ := I.list hq
    have hlen := r'.length
    exact Calls.call_len_list pl.isList (by simp only [List.size_toArray] <;> omega) ⟨.int ys.length, H, I.tok _, ⟨s.toks + 1, by rw [List.size_toArray, hlen]⟩, q⟩
  · obtain ⟨its, r', pl, hz⟩ := I.tuple hq
    have hlen := r'.length
    exact len_tuple pl (by simp only [List.size_toArray] <;> omega) ⟨.int ys.length, H, I.tok _, ⟨s.toks + 1, by rw [List.size_toArray, hlen]⟩, q⟩
theorem call_len_str : CallR X (.builtin "len") (fun xs H Q => ∃ z, xs = [.str z] ∧ z.length ≤ sizeLine ∧ Q (.int z.length) H) := by
  intro pins s σ H xs us Q I r h
  obtain ⟨z, rfl, hz, q⟩ := h
  obtain ⟨u, rfl, t, rfl⟩ := vals1 r
  have hn := line63
  exact len_str (by omega) ⟨.int z.length, H, I.tok _, ⟨_, rfl⟩, q⟩
theorem CallR.or {f : Value} {r r' : List V → Hp → VK → Prop} (h : CallR X f r) (h' : CallR X f r') : CallR X f (fun xs H Q => r xs H Q ∨ r' xs H Q) := by
  intro pins s σ H xs us Q I rs q
  rcases q with q | q
  · exact h pins s σ H xs us Q I rs q
  · exact h' pins s σ H xs us Q I rs q
theorem call_list_of : CallR X (.type "list") (fun xs H Q => ∃ p ys, xs = [.ref p] ∧ (SqL X.K H p ys ∨ SqT X.K H p ys) ∧ ∀ l, H l = none → Q (.ref l) (upd H l (.lst ys))) := by
  intro pins s σ H xs us Q I r h
  obtain ⟨p, ys, rfl, hq, q⟩ := h
  obtain ⟨u, rfl, rx⟩ := vals1 r
  cases rx
  have fin : ∀ (its : List Value), Vals ys its → ys.length ≤ sizeLine → ∀ (h' : Heap) (c' : Nat), (∀ b o', s.heap.get? b = some o' → h'.get? b = some o') →
      h'.get? s.heap.objs.size = some { cls := .type "list", dict := none, data := .seq its.toArray c', slots := #[] } → EP X pins σ Q (.ref s.heap.objs.size) { s with heap := h' } := fun its r' hz h' c' kp e =>
    ⟨.ref s.heap.objs.size, _, I.laid (t' := s.toks) kp (Nat.le_refl _) (show ObjOk X.prog X.w _ h' _ (.lst ys) from ⟨hz, its, c', r', e⟩), rfl, q _ (I.hok.fresh (Nat.le_refl _))⟩
  rcases hq with hq | hq
  · obtain ⟨its, r', pl, hz⟩ := I.list hq
    have hlen := r'.length
    obtain ⟨o, ho, hc, n, hd⟩ := pl.isList
    exact call_list_seq p (.inl rfl) ho hc hd (fun h' c' kp e => fin its r' hz h' c' kp e) (by simp only [List.size_toArray] <;> omega)
  · obtain ⟨its, r', pl, hz⟩ := I.tuple hq
    have hlen := r'.length
    obtain ⟨o, ho, hc, n, hd⟩ := pl
    exact call_list_seq p (.inr rfl) ho hc hd (fun h' c' kp e => fin its r' hz h' c' kp e) (by simp only [List.size_toArray] <;> omega)
theorem call_tuple_of : CallR X (.type "tuple") (fun xs H Q => ∃ p ys, xs = [.ref p] ∧ ((SqL X.K H p ys ∧ ∀ l, H l = none → Q (.ref l) (upd H l (.tup ys))) ∨ (SqT X.K H p ys ∧ Q (.ref p) H))) := by
  intro pins s σ H xs us Q I r h
  obtain ⟨p, ys, rfl, h⟩ := h
  obtain ⟨u, rfl, rx⟩ := vals1 r
  cases rx
  rcases h with ⟨hq, q⟩ | ⟨hq, q⟩
  · obtain ⟨its, r', pl, hz⟩ := I.list hq
    have hlen := r'.length
    refine call_tuple_list pl.isList (fun h' kp => ?_) (by simp only [List.size_toArray] <;> omega)
    have I1 : Inv X pins σ H { s with heap := h' } := I.kept (t' := s.toks) kp
    have I2 : Inv X pins σ (upd H h'.objs.size (.tup ys)) { s with heap := h'.push { cls := .type "tuple", data := .seq its.toArray } } :=
      I1.laid (t' := s.toks) (fun b o e => Heap.get?_push_of_some _ e) (Nat.le_refl _) (show ObjOk X.prog X.w _ _ _ (.tup ys) from ⟨hz, its, r', IsTup.new _ _⟩)
    exact ⟨.ref h'.objs.size, _, I2, rfl, q _ (I1.hok.fresh (Nat.le_refl _))⟩
  · obtain ⟨its, r', pl, hz⟩ := I.tuple hq
    exact call_tuple_same pl ⟨.ref p, H, I, rfl, q⟩

/-! ### the call of a builtin's method: o.m(..) -/
/-- the value is of that builtin type -/
def tyV (K : PySem.W.Frag) (T : String) (x : V) (H : Hp) : Prop := match x with
  | .str _ => T = "str"
  | .int _ => T = "int"
  | .ref p => (T = "list" ∧ ∃ xs, SqL K H p xs) ∨ (T = "tuple" ∧ ∃ o, K.lookup p = some o ∧ o.cls = .type "tuple" ∧ o.dict = none) ∨
      (T = "dict" ∧ ((∃ kvs, H p = some (.dK kvs)) ∨ ∃ kvs, H p = some (.dT kvs))) ∨ (T = "set" ∧ ∃ S n, H p = some (.set S n))
  | _ => False
theorem tyV_is {pins : List (Addr × Obj)} {σ : St} {H : Hp} {s : Shared} {T : String} {x : V} {v : Value} (I : Inv X pins σ H s) (r : RelV x v) (ty : tyV X.K T x H) :
    s.TypeIs v T ∧ ∀ a, v = .ref a → ∃ ob, s.heap.get? a = some ob ∧ ob.dict = none := by
  cases x with
  | str z =>
    obtain ⟨t, rfl⟩ := r
    cases (show T = "str" from ty)
    exact ⟨typeIs_str s z t, fun _ e => nomatch e⟩
  | int i =>
    obtain ⟨t, rfl⟩ := r
    cases (show T = "int" from ty)
    exact ⟨typeIs_int s i t, fun _ e => nomatch e⟩
  | ref p =>
    cases r
    rcases ty with ⟨rfl, xs, hq⟩ | ⟨rfl, o, hk, hc, hd⟩ | ⟨rfl, hk⟩ | ⟨rfl, S, n, hk⟩
    · obtain ⟨its, _, pl, _⟩ := I.list hq
      refine ⟨pl.isList.typeIs, fun a e => ?_⟩
      cases e
      obtain ⟨o, n, e, c, hd, _⟩ := pl
      exact ⟨o, e, hd⟩
    · refine ⟨⟨o, I.kIn p o hk, hc⟩, fun a e => ?_⟩
      cases e
      exact ⟨o, I.kIn _ o hk, hd⟩
    · have z : ∃ o, s.heap.get? p = some o ∧ o.ExactDict := by
        rcases hk with ⟨kvs, hk⟩ | ⟨kvs, hk⟩
        · obtain ⟨_, _, _, _, o, _, _, e, ex, _⟩ := I.hok p _ hk
          exact ⟨o, e, ex⟩
        · obtain ⟨_, _, _, _, o, _, _, e, ex, _⟩ := I.hok p _ hk
          exact ⟨o, e, ex⟩
      obtain ⟨o, e, ex⟩ := z
      refine ⟨⟨o, e, ex.1⟩, fun a e2 => ?_⟩
      cases e2
      exact ⟨o, e, ex.2.1⟩
    · obtain ⟨o, _, _, _, e, ex, _⟩ := I.hok p _ hk
      refine ⟨⟨o, e, ex.1⟩, fun a e2 => ?_⟩
      cases e2
      exact ⟨o, e, ex.2.1⟩
  | _ => exact False.elim ty
def tBM0 (K : PySem.W.Frag) (T : String) (r : V → List V → Hp → VK → Prop) (to : TE) : TE := fun σ H Q => to σ H fun x H1 => tyV K T x H1 ∧ r x [] H1 Q
def tBM (K : PySem.W.Frag) (T : String) (r : V → List V → Hp → VK → Prop) (to : TE) (t : TA) : TE := fun σ H Q => to σ H fun x H1 => tyV K T x H1 ∧ t σ H1 fun xs H2 => r x xs H2 Q
variable {o e : Expr} {es : List Expr} {to : TE} {t : TA} {name : Str} {apos cpos : Pos} {T id : String} {r : V → List V → Hp → VK → Prop}
theorem pe_bm0 (pa : PlainAttrs T) (slot : Slot T name id) (hty : typeOf (.builtin id) = pure (.type "method_descriptor")) (hm : MtR X id r) (ho : PE X o to)
    (hbase : attributeBase o name X.env (eval o X.env) = eval o X.env := by rfl) (hline : (apos.endLine == cpos.line) = true := by rfl) : PE X (.Call (.Attribute o name apos) [] [] cpos) (tBM0 X.K T r to) := by
  intro pins s σ H Q I h
  refine wpAny_Call_method0_late hbase hline (thn (ho pins s σ H _ I h) fun v s1 ⟨x, H1, I1, r1, ty, q1⟩ => ?_)
  obtain ⟨h1, h2⟩ := tyV_is I1 r1 ty
  exact ⟨T, id, pa, slot, hty, h1, h2, Calls.callWith_builtin rfl (PySem.evalArgs_none (hm pins s1 σ H1 x [] v [] Q I1 r1 .nil q1))⟩
theorem pe_bm (pa : PlainAttrs T) (slot : Slot T name id) (hty : typeOf (.builtin id) = pure (.type "method_descriptor")) (hm : MtR X id r) (ho : PE X o to) (ha : PA X (e :: es) t)
    (hbase : attributeBase o name X.env (eval o X.env) = eval o X.env := by rfl)
    (hfew : ((backTo cpos (starEach (e :: es) X.env)).all (fun x => !x.1) && (backToKw cpos (keywordEach [] X.env)).all (fun x => x.1.isSome)
      && decide ((e :: es).length + ([] : List Keyword).length + (if ([] : List Keyword).isEmpty then 0 else 1) < 30)) = true := by rfl)
    (hline : (apos.endLine == cpos.line) = true := by rfl) (hs : starEach (e :: es) X.env = (false, eval e X.env) :: starEach es X.env := by rfl) (hplain : (backTo cpos (starEach es X.env)).any (·.1) = false := by rfl) :
    PE X (.Call (.Attribute o name apos) (e :: es) [] cpos) (tBM X.K T r to t) := by
  intro pins s σ H Q I h
  refine wpAny_Call_method_late hbase hfew hline rfl (thn (ho pins s σ H _ I h) fun v s1 ⟨x, H1, I1, r1, ty, q1⟩ => ?_)
  obtain ⟨h1, h2⟩ := tyV_is I1 r1 ty
  refine ⟨T, id, pa, slot, hty, h1, h2, ?_⟩
  have hA := ha cpos pins s1 σ H1 _ I1 q1
  rw [hs] at hA ⊢
  refine Calls.callWith_builtin (by show (false || (backTo cpos (starEach es X.env)).any (·.1)) = false; rw [hplain] <;> rfl) (Calls.evalArgs_plain ?_)
  exact thn hA fun us s2 ⟨vs, H2, I2, r2, q2⟩ => hm pins s2 σ H2 x vs v us Q I2 r1 r2 q2
/- xs.append(e), list.index on a module's tuple .. are MtR facts of 06m -/
end
end L2

namespace L2
open PySem PySem.Spec PyProof.Rows

def MtM (X : Cx) (id : String) (r : V → List V → Hp → VK → Prop) : Prop :=
  ∀ (pins : List (Addr × Obj)) (s : Shared) (σ : St) (H : Hp) (x : V) (xs : List V) (v : Value) (us : List Value) (Q : VK), Inv X pins σ H s → RelV x v → Vals xs us → r x xs H Q →
    wpAny (model X.prog X.w) X.A (call (.builtin id) (v :: us)) (EP X pins σ Q) X.xe s

/-! ### lists of values -/
theorem Vals.one : ∀ {x : V} {us : List Value}, Vals [x] us → ∃ u, us = [u] ∧ RelV x u
  | _, _, .cons r .nil => ⟨_, rfl, r⟩
theorem Vals.two : ∀ {x y : V} {us : List Value}, Vals [x, y] us → ∃ u v, us = [u, v] ∧ RelV x u ∧ RelV y v
  | _, _, _, .cons r (.cons q .nil) => ⟨_, _, rfl, r, q⟩
theorem Vals.zero : ∀ {us : List Value}, Vals [] us → us = []
  | _, .nil => rfl
theorem Vals.dropLast {xs : List V} {us : List Value} (h : Vals xs us) : Vals xs.dropLast us.dropLast := by
  induction h with
  | nil => exact .nil
  | cons r t ih =>
    cases t with
    | nil => exact .nil
    | cons q t' => exact .cons r ih
theorem Vals.eraseIdx : ∀ {xs : List V} {us : List Value} (i : Nat), Vals xs us → Vals (xs.eraseIdx i) (us.eraseIdx i)
  | _, _, _, .nil => .nil
  | _, _, 0, .cons _ t => t
  | _, _, i + 1, .cons r t => .cons r (Vals.eraseIdx i t)
theorem Vals.reverse {xs : List V} {us : List Value} (h : Vals xs us) : Vals xs.reverse us.reverse := by
  induction h with
  | nil => exact .nil
  | cons r t ih => rw [List.reverse_cons, List.reverse_cons]; exact Vals.append ih (.cons r .nil)
theorem Vals.rep {xs : List V} {us : List Value} (h : Vals xs us) : ∀ k : Nat, Vals (List.replicate k xs).flatten (List.replicate k us).flatten
  | 0 => .nil
  | k + 1 => by
    rw [List.replicate_succ, List.replicate_succ, List.flatten_cons, List.flatten_cons]
    exact Vals.append h (Vals.rep h k)
theorem erase_last {α : Type} (l : List α) : l.eraseIdx (l.length - 1) = l.dropLast := by
  induction l with
  | nil => rfl
  | cons a r ih =>
    cases r with
    | nil => rfl
    | cons b r =>
      have e : (a :: b :: r).length - 1 = ((b :: r).length - 1) + 1 := by
        have h1 : (a :: b :: r).length = r.length + 2 := rfl
        have h2 : (b :: r).length = r.length + 1 := rfl
        omega
      rw [e, List.eraseIdx_cons_succ, ih]
      all_goals rfl
theorem len_erase {α : Type} : ∀ (l : List α) (i : Nat), (l.eraseIdx i).length ≤ l.length
  | [], _ => Nat.le_refl _
  | _ :: _, 0 => Nat.le_succ _
  | _ :: r, i + 1 => Nat.succ_le_succ (len_erase r i)
theorem foldl_rep (its : List Value) : ∀ (k : Nat) (acc : List Value),
    List.foldl (fun x1 x2 => x1 ++ x2) acc.toArray (List.replicate k its.toArray) = (acc ++ (List.replicate k its).flatten).toArray
  | 0, acc => by simp
  | k + 1, acc => by
    have e : acc.toArray ++ its.toArray = (acc ++ its).toArray := by simp
    have e2 : (acc ++ its) ++ (List.replicate k its).flatten = acc ++ (List.replicate (k + 1) its).flatten := by
      rw [List.replicate_succ, List.flatten_cons, List.append_assoc]
    rw [← e2, ← foldl_rep its k (acc ++ its), ← e, List.replicate_succ, List.foldl_cons]

section
variable {X : Cx} {pins : List (Addr × Obj)} {σ : St} {H : Hp} {s : Shared} {l b : Addr} {xs ys zs : List V}

/-! ### the two steps: a tracked list is rewritten, a new list is laid -/
theorem Inv.lset {its its' : List Value} {n : Nat} {f : Array Value → Array Value} {t' : Nat} (I : Inv X pins σ H s) (hH : H l = some (.lst xs))
    (e : s.heap.get? l = some { cls := .type "list", data := .seq its.toArray n }) (hf : f its.toArray = its'.toArray) (hv : Vals ys its') (hz : ys.length ≤ sizeLine) :
    Inv X pins σ (upd H l (.lst ys)) { s with heap := s.heap.update l (Obj.mapSeq f), toks := t' } := by
  have q := PySem.IsL.update e f
  rw [hf] at q
  refine I.write (x := l) (e := l) (by rw [hH]; exact trivial) (.inl rfl) (fun b' u hb hu => (Heap.get?_update_other s.heap (Obj.mapSeq f) (Ne.symm hb)).trans hu) ⟨_, q⟩ ?_
  exact ⟨hz, its', _, hv, q⟩
theorem Inv.lnew {its : List Value} {t' : Nat} (I : Inv X pins σ H s) (hv : Vals ys its) (hz : ys.length ≤ sizeLine) :
    Inv X pins σ (upd H s.heap.objs.size (.lst ys)) { s with heap := s.heap.push { cls := .type "list", data := .seq its.toArray }, toks := t' } :=
  I.laid (fun _ _ q => Heap.get?_push_of_some _ q) (Nat.le_refl _) ⟨hz, its, 0, hv, Heap.get?_push_size _ rfl⟩
theorem Inv.fresh (I : Inv X pins σ H s) : H s.heap.objs.size = none := I.hok.fresh (Nat.le_refl _)
theorem Inv.lstM (I : Inv X pins σ H s) (hH : H l = some (.lst xs)) : xs.length ≤ sizeLine ∧ ∃ (its : List Value) (n : Nat), Vals xs its ∧ xs.length = its.length ∧ s.heap.get? l = some { cls := .type "list", data := .seq its.toArray n } := by
  obtain ⟨z, its, n, r, e⟩ := I.hok l _ hH
  exact ⟨z, its, n, r, r.length, e⟩

theorem notLongL {n : Nat} (h : n ≤ sizeLine) : Builtin.List.listTooLong n = false := by
  unfold Builtin.List.listTooLong
  exact decide_eq_false (by omega)
end

section
variable {X : Cx}

/-! ### methods -/
def rAppend : V → List V → Hp → VK → Prop := fun x vs H Q => ∃ l xs y, x = .ref l ∧ vs = [y] ∧ H l = some (.lst xs) ∧ xs.length < sizeLine ∧ Q .non (upd H l (.lst (xs ++ [y])))
theorem mt_append : MtM X "list.append" rAppend := by
  intro pins s σ H x vs v us Q I rx rv h
  obtain ⟨l, xs, y, rfl, rfl, hH, hz, q⟩ := h
  cases rx
  obtain ⟨u, rfl, ru⟩ := rv.one
  obtain ⟨z, its, n, r, hl, e⟩ := I.lstM hH
  refine call_meets F.slot_list_append ⟨_, e, rfl⟩ F.entry_list_append (F.args_list_append_2 _ _) (PySem.list_append l its.toArray n u (by rw [List.size_toArray]; omega)) ⟨e, ?_⟩
  refine ⟨.non, _, I.lset (its' := its ++ [u]) hH e (by simp) (r.append (.cons ru .nil)) ?_, rfl, q⟩
  rw [List.length_append, List.length_singleton]
  omega

def rExtend : V → List V → Hp → VK → Prop := fun x vs H Q => ∃ l b xs zs, x = .ref l ∧ vs = [.ref b] ∧ H l = some (.lst xs) ∧ H b = some (.lst zs) ∧ xs.length + zs.length ≤ sizeLine ∧ Q .non (upd H l (.lst (xs ++ zs)))
theorem mt_extend : MtM X "list.extend" rExtend := by
  intro pins s σ H x vs v us Q I rx rv h
  obtain ⟨l, b, xs, zs, rfl, rfl, hH, hB, hz, q⟩ := h
  cases rx
  obtain ⟨u, rfl, ru⟩ := rv.one
  cases ru
  obtain ⟨z, its, n, r, hl, e⟩ := I.lstM hH
  obtain ⟨z2, its2, n2, r2, hl2, e2⟩ := I.lstM hB
  have hsz : its.toArray.size + its2.toArray.size ≤ sizeLine := by rw [List.size_toArray, List.size_toArray]; omega
  have hlong : ¬ (!its.toArray.isEmpty && Builtin.List.listTooLong (its.toArray.size + its2.toArray.size)) = true := by
    rw [notLongL hsz, Bool.and_false]
    exact Bool.false_ne_true
  refine call_meets F.slot_list_extend ⟨_, e, rfl⟩ F.entry_list_extend (F.args_list_extend_2 _ _)
    (AutoSeq1.list_extend_list_list_0 l its.toArray n b its2.toArray n2 hlong (by rw [List.size_toArray]; omega) (by omega)) ⟨e, e2, ?_⟩
  refine ⟨.non, _, I.lset (its' := its ++ its2) hH e (by simp) (r.append r2) ?_, rfl, q⟩
  rw [List.length_append]
  omega

def rPop : V → List V → Hp → VK → Prop := fun x vs H Q => ∃ l xs y, x = .ref l ∧ vs = [] ∧ H l = some (.lst xs) ∧ xs[xs.length - 1]? = some y ∧ Q y (upd H l (.lst xs.dropLast))
theorem mt_pop : MtM X "list.pop" rPop := by
  intro pins s σ H x vs v us Q I rx rv h
  obtain ⟨l, xs, y, rfl, rfl, hH, hy, q⟩ := h
  cases rx
  have hus := rv.zero
  subst hus
  obtain ⟨z, its, n, r, hl, e⟩ := I.lstM hH
  obtain ⟨u, hu, ru⟩ := r.get hy
  have hy' : its.toArray[its.toArray.size - 1]? = some u := by
    show its.toArray[its.length - 1]? = some u
    rw [← Array.getElem?_toList, ← hl]
    exact hu
  refine call_meets F.slot_list_pop ⟨_, e, rfl⟩ F.entry_list_pop (F.args_list_pop_1 _) (MeetsSeq.list_pop_last l its.toArray n u hy' (by rw [List.size_toArray]; omega)) ⟨e, ?_⟩
  refine ⟨y, _, I.lset (its' := its.dropLast) hH e ?_ r.dropLast ?_, ru, q⟩
  · show its.toArray.eraseIdxIfInBounds (its.toArray.size - 1) = its.dropLast.toArray
    rw [List.size_toArray, List.eraseIdxIfInBounds_toArray, erase_last]
  · rw [List.length_dropLast]
    omega

def rPopAt : V → List V → Hp → VK → Prop := fun x vs H Q => ∃ l xs i k y, x = .ref l ∧ vs = [.int i] ∧ H l = some (.lst xs) ∧ -(2 ^ 63) ≤ i ∧ i < 2 ^ 63 ∧ seqIndex? i xs.length = some k ∧ xs[k]? = some y ∧ Q y (upd H l (.lst (xs.eraseIdx k)))
theorem mt_popAt : MtM X "list.pop" rPopAt := by
  intro pins s σ H x vs v us Q I rx rv h
  obtain ⟨l, xs, i, k, y, rfl, rfl, hH, h1, h2, hk, hy, q⟩ := h
  cases rx
  obtain ⟨u, rfl, ru⟩ := rv.one
  obtain ⟨t, rfl⟩ := ru
  obtain ⟨z, its, n, r, hl, e⟩ := I.lstM hH
  obtain ⟨w, hw, rw'⟩ := r.get hy
  refine call_meets F.slot_list_pop ⟨_, e, rfl⟩ F.entry_list_pop (F.args_list_pop_2 _ _)
    (MeetsSeq.list_pop_at l its.toArray n i t k w (fitsIndex_both h1 h2) (by rw [List.size_toArray, ← hl]; exact hk) (by rw [← Array.getElem?_toList]; exact hw) (by rw [List.size_toArray]; omega)) ⟨e, ?_⟩
  refine ⟨y, _, I.lset (its' := its.eraseIdx k) hH e ?_ (r.eraseIdx k) ?_, rw', q⟩
  · show its.toArray.eraseIdxIfInBounds k = (its.eraseIdx k).toArray
    rw [List.eraseIdxIfInBounds_toArray]
  · have := len_erase xs k
    omega

def rReverse : V → List V → Hp → VK → Prop := fun x vs H Q => ∃ l xs, x = .ref l ∧ vs = [] ∧ H l = some (.lst xs) ∧ Q .non (upd H l (.lst xs.reverse))
theorem mt_reverse : MtM X "list.reverse" rReverse := by
  intro pins s σ H x vs v us Q I rx rv h
  obtain ⟨l, xs, rfl, rfl, hH, q⟩ := h
  cases rx
  have hus := rv.zero
  subst hus
  obtain ⟨z, its, n, r, hl, e⟩ := I.lstM hH
  refine call_meets F.slot_list_reverse ⟨_, e, rfl⟩ F.entry_list_reverse (F.args_list_reverse_1 _) (AutoSeq1.list_reverse_list_0 l its.toArray n (by rw [List.size_toArray]; omega)) ⟨e, ?_⟩
  refine ⟨.non, _, I.lset (its' := its.reverse) hH e (by simp) r.reverse ?_, rfl, q⟩
  rw [List.length_reverse]
  omega

def rClear : V → List V → Hp → VK → Prop := fun x vs H Q => ∃ l xs, x = .ref l ∧ vs = [] ∧ H l = some (.lst xs) ∧ Q .non (upd H l (.lst []))
theorem mt_clear : MtM X "list.clear" rClear := by
  intro pins s σ H x vs v us Q I rx rv h
  obtain ⟨l, xs, rfl, rfl, hH, q⟩ := h
  cases rx
  have hus := rv.zero
  subst hus
  obtain ⟨z, its, n, r, hl, e⟩ := I.lstM hH
  refine call_meets F.slot_list_clear ⟨_, e, rfl⟩ F.entry_list_clear (F.args_list_clear_1 _) (AutoSeq1.list_clear_list_0 l its.toArray n (by rw [List.size_toArray]; omega)) ⟨e, ?_⟩
  exact ⟨.non, _, I.lset (its' := []) (ys := []) hH e rfl .nil (Nat.zero_le _), rfl, q⟩

/-! ### list + list, list += list, list * int -/
def rCat : R2 := fun x y H Q => ∃ l b xs zs, x = .ref l ∧ y = .ref b ∧ H l = some (.lst xs) ∧ H b = some (.lst zs) ∧ xs.length + zs.length ≤ sizeLine ∧ ∀ p, H p = none → Q (.ref p) (upd H p (.lst (xs ++ zs)))
theorem op_cat : OpR X (binaryOp .Add) rCat := by
  intro pins s σ H x y v u Q I rx ry h
  obtain ⟨l, b, xs, zs, rfl, rfl, hH, hB, hz, q⟩ := h
  cases rx
  cases ry
  obtain ⟨z, its, n, r, hl, e⟩ := I.lstM hH
  obtain ⟨z2, its2, n2, r2, hl2, e2⟩ := I.lstM hB
  refine PySem.P.add_list e e2 ?_ (by rw [List.size_toArray, List.size_toArray]; omega)
  have ea : its.toArray ++ its2.toArray = (its ++ its2).toArray := by simp
  rw [ea]
  exact ⟨.ref _, _, I.lnew (t' := s.toks) (r.append r2) (by rw [List.length_append]; omega), rfl, q _ I.fresh⟩
/-- a list times an int (a negative one is nothing) -/
def rRep : R2 := fun x y H Q => ∃ l k xs, x = .ref l ∧ y = .int k ∧ H l = some (.lst xs) ∧ -(2 ^ 63) ≤ k ∧ k < 2 ^ 63 ∧ xs.length * k.toNat ≤ sizeLine ∧
  ∀ p, H p = none → Q (.ref p) (upd H p (.lst (List.replicate k.toNat xs).flatten))
theorem len_rep {α : Type} (xs : List α) (k : Nat) : (List.replicate k xs).flatten.length = k * xs.length := by
  induction k with
  | zero => simp
  | succ k ih => rw [List.replicate_succ, List.flatten_cons, List.length_append, ih, Nat.succ_mul, Nat.add_comm]
theorem op_rep : OpR X (binaryOp .Mult) rRep := by
  intro pins s σ H x y v u Q I rx ry h
  obtain ⟨l, k, xs, rfl, rfl, hH, h1, h2, hz, q⟩ := h
  cases rx
  obtain ⟨t, rfl⟩ := ry
  obtain ⟨z, its, n, r, hl, e⟩ := I.lstM hH
  have hlen : its.toArray.size * k.toNat ≤ sizeLine := by rw [List.size_toArray, ← hl]; exact hz
  have hcap : ¬ its.toArray.size * k.toNat > (2 ^ 63 - 1) / 8 := by
    have : (sizeLine : Nat) ≤ (2 ^ 63 - 1) / 8 := by decide
    omega
  have hfit : ¬ (!Builtin.List.listFitsIndex k) = true := by
    rw [fitsIndex_both h1 h2]
    exact Bool.false_ne_true
  have hlong : ¬ Builtin.List.listTooLong (its.toArray.size * k.toNat) = true := by
    rw [notLongL hlen]
    exact Bool.false_ne_true
  have hnew : List.foldl (fun x1 x2 => x1 ++ x2) #[] (List.replicate (if its.toArray.isEmpty = true then 0 else k.toNat) its.toArray) = (List.replicate k.toNat its).flatten.toArray := by
    have f0 : ∀ m : Nat, List.foldl (fun x1 x2 => x1 ++ x2) #[] (List.replicate m its.toArray) = (List.replicate m its).flatten.toArray := fun m => by
      have := foldl_rep its m []
      rw [List.nil_append] at this
      exact this
    rw [f0]
    cases its with
    | nil => simp
    | cons a r' => rw [if_neg (by simp)]
  refine wpAny_binaryOp_repeat_ref (T := "list") (U := "int") (by decide) ⟨_, e, rfl⟩ (fun s' => typeIs_int s' k t) noFill_list_mul F.fills_int_mul F.slot_int_rmul repeat_list F.slot_int_index.lookup
    (call_meets F.slot_int_rmul (typeIs_int s k t) F.entry_int_rmul (F.args_int_rmul_2 _ _) (int___rmul___int_list k t l its.toArray n)
      ⟨e, rfl, ⟨_, e, rfl⟩, call_meets F.slot_list_mul ⟨_, e, rfl⟩ F.entry_list_mul (F.args_list_mul_2 _ _) (AutoListH.list___mul___list_int_3 l its.toArray n k t hfit hcap hlong) ⟨e, ?_⟩⟩)
  rw [hnew]
  exact ⟨.ref _, _, I.lnew (t' := s.toks) (r.rep k.toNat) (by rw [len_rep, Nat.mul_comm]; exact hz), rfl, q _ I.fresh⟩

/-! ### del xs[i] -/
theorem del_list {pins : List (Addr × Obj)} {s : Shared} {σ : St} {H : Hp} {l : Addr} {xs : List V} {i : Int} {t : Tok} {k : Nat} {Q : Unit → Shared → Prop} (I : Inv X pins σ H s) (hH : H l = some (.lst xs))
    (h1 : -(2 ^ 63) ≤ i) (h2 : i < 2 ^ 63) (hk : seqIndex? i xs.length = some k) (h : ∀ s', Inv X pins σ (upd H l (.lst (xs.eraseIdx k))) s' → Q () s') :
    wpAny (model X.prog X.w) X.A (delItem (.ref l) (.int i t)) Q X.xe s := by
  obtain ⟨z, its, n, r, hl, e⟩ := I.lstM hH
  refine PySem.P.delItem_list (k := k) e (fitsIndex_both h1 h2) (by rw [List.size_toArray, ← hl]; exact hk) (h _ ?_) (by rw [List.size_toArray]; omega)
  refine I.lset (its' := its.eraseIdx k) (t' := s.toks) hH e ?_ (r.eraseIdx k) ?_
  · show its.toArray.eraseIdxIfInBounds k = (its.eraseIdx k).toArray
    rw [List.eraseIdxIfInBounds_toArray]
  · have := len_erase xs k
    omega
end

/-! ### xs[a:b] = ys -/
section
variable {prog : Program} {w : World} {A : Around} {E : Value → Shared → Prop} {s : Shared}
theorem splice_eq (its its2 : List Value) (a c : Nat) : its.toArray.extract 0 a ++ its2.toArray ++ its.toArray.extract c its.toArray.size = (its.take a ++ its2 ++ its.drop c).toArray := by
  apply Array.toList_inj.mp
  first
    | (simp
       exact List.take_of_length_le (by simp))
    | simp [List.take_of_length_le]
    | simp
theorem bounds_run {a c n : Nat} (hac : a ≤ c) (hc : c ≤ n) : sliceBounds (some (a : Int)) (some (c : Int)) none n = ((a : Int), (c : Int), 1) := by
  simp only [sliceBounds, Option.getD_none]
  have h1 : ¬ ((a : Int) < 0) := by omega
  have h2 : ¬ ((c : Int) < 0) := by omega
  simp only [h1, h2, if_false, show (1 : Int) > 0 by decide, if_true]
  congr 1
  · omega
  · congr 1; omega
set_option maxRecDepth 100000 in
/-- list.__setitem__ with a slice of step one and another list -/
theorem setItem_slice {l b sl : Addr} {items new : Array Value} {n n2 : Nat} {vl vu : Value} {a c : Nat} {Q : Unit → Shared → Prop}
    (e : s.heap.get? l = some { cls := .type "list", data := .seq items n }) (e2 : s.heap.get? b = some { cls := .type "list", data := .seq new n2 }) (hne : l ≠ b)
    (hs : s.heap.IsSliceOf sl vl vu .none) (pl : IsPart vl (some (a : Int))) (pu : IsPart vu (some (c : Int))) (hac : a ≤ c) (hc : c ≤ items.size)
    (hsz : items.size + new.size ≤ sizeLine) (h : Q () { s with heap := s.heap.update l (Obj.mapSeq fun xs => xs.extract 0 a ++ new ++ xs.extract c xs.size) }) :
    wpAny (model prog w) A (setItem (.ref l) (.ref sl) (.ref b)) Q E s := by
  have hl : s.heap.IsList l items := PySem.IsL.isList e
  have hb : s.heap.IsList b new := PySem.IsL.isList e2
  obtain ⟨os, hos, hcs, hds⟩ := id hs
  have hTs : s.TypeIs (.ref sl) "slice" := ⟨os, hos, hcs⟩
  have hstep : ¬ ((rawPart none == rawInt 0) = true) := Bool.false_ne_true
  have hsame : Builtin.List.listSameRef (.ref l) (.ref b) = false := by
    unfold Builtin.List.listSameRef
    exact beq_eq_false_iff_ne.mpr hne
  have hmax : (max (a : Int) (c : Int)).toNat = c := by omega
  have hz' : ((fun xs : Array Value => xs.extract 0 a ++ new ++ xs.extract c xs.size) items).size ≤ sizeLine + 1 := by
    simp only [Array.size_append, Array.size_extract]
    omega
  unfold setItem
  try with_reducible refine wpAny_holding ?_
  first | refine wpAny_bind (wpAny_pure ?_) | skip
  refine wpAny_bind (wpAny_sequenceKey hl.typeIs (by decide) ?_)
  refine wpAny_bind (wpAny_callSpecial?_slot (name := Str.ofString "__setitem__") hl.typeIs slot_list_setitem
    (wpAny_call_entry slot_list_setitem hl.typeIs entry_list_setitem ?_ (args_list_setitem _ _ _)))
  show wpAny _ _ (Builtin.List.listSubscript? (.ref sl) >>= _) _ _ s
  refine wpAny_bind ?_
  unfold Builtin.List.listSubscript?
  refine wpAny_bind (wpAny_specialOf hTs slice_no_index ?_)
  simp only [Option.isNone_none, if_true]
  refine wpAny_pure ?_
  show wpAny _ _ (typeOf (.ref sl) >>= _) _ _ s
  refine wpAny_bind (wpAny_typeOf hTs ?_)
  first
    | rw [if_neg (by decide)]
    | refine PySem.W.KFB.if_not (by decide) ?_
  rw [listSliceParts_eq]
  refine wpAny_bind (wpAny_bind (wpAny_field hos hds (x := .none) rfl (wpAny_bind (wpAny_listPart .none ?_))))
  rw [if_neg hstep]
  refine wpAny_bind (wpAny_field hos hds (x := vl) rfl (wpAny_bind (wpAny_listPart pl ?_)))
  refine wpAny_bind (wpAny_field hos hds (x := vu) rfl (wpAny_bind (wpAny_listPart pu (wpAny_pure ?_))))
  first
    | simp only [hsame, Bool.false_eq_true, if_false]
    | refine PySem.W.KFB.if_not hsame ?_
    | (dsimp only
       rw [if_neg (by rw [hsame]; exact Bool.false_ne_true)])
  refine wpAny_bind (m := Builtin.List.listAllItems (.ref b) "must assign iterable to extended slice") ?_
  unfold Builtin.List.listAllItems
  refine wpAny_bind (wpAny_typeOf hb.typeIs ?_)
  first
    | refine PySem.W.KFB.if_so (by decide) ?_
    | rw [if_pos (by decide)]
    | simp only [beq_self_eq_true, Bool.true_or, if_true]
  unfold Builtin.List.listItems
  refine wpAny_bind (wpAny_seqItems e2 rfl (wpAny_pure ?_))
  refine wpAny_bind (wpAny_bind (wpAny_seqItems e rfl (wpAny_pure ?_)))
  refine wpAny_bind (wpAny_of_eq ((sliceIndices_raw (some (a : Int)) (some (c : Int)) none items.size (by simp)).trans (congrArg (pure : Int × Int × Int → Sem (Int × Int × Int)) (bounds_run hac hc))) ?_)
  show wpAny _ _ (if ((1 : Int) == 1) = true then _ else _) _ _ s
  rw [if_pos (by decide)]
  refine wpAny_bind (wpAny_rule ?_)
  first
    | simp only [notLongL hsz, Bool.false_eq_true, if_false]
    | refine PySem.W.KFB.if_not (notLongL hsz) ?_
  first | refine wpAny_bind (wpAny_pure ?_) | skip
  show wpAny _ _ (updateSeq l (fun xs => xs.extract 0 ((a : Int)).toNat ++ new ++ xs.extract (max (a : Int) (c : Int)).toNat xs.size) >>= _) _ _ s
  rw [hmax, Int.toNat_natCast]
  refine wpAny_bind (wpAny_updateSeq (hz := Nat.le_trans (Nat.le_add_right _ _) hsz) (_hz' := hz') e rfl ?_)
  refine wpAny_bind (wpAny_letGo ?_)
  first
    | exact wpAny_bind (wpAny_pure (wpAny_pure ⟨.none, rfl, wpAny_pure h⟩))
    | exact wpAny_pure ⟨.none, rfl, wpAny_pure h⟩
end

section
variable {X : Cx}
/-- xs[a:c] = ys of another list, at the value level: sl is the slice object that was just made -/
theorem set_slice {pins : List (Addr × Obj)} {s : Shared} {σ : St} {H : Hp} {l b sl : Addr} {xs ys : List V} {a c : Int} {vl vu : Value} {Q : Unit → Shared → Prop} (I : Inv X pins σ H s)
    (hH : H l = some (.lst xs)) (hB : H b = some (.lst ys)) (hne : l ≠ b) (hs : s.heap.IsSliceOf sl vl vu .none) (ra : RelV (.int a) vl) (rc : RelV (.int c) vu) (h0 : 0 ≤ a) (hac : a ≤ c) (hc : c ≤ xs.length)
    (hz : xs.length + ys.length ≤ sizeLine) (h : ∀ s', Inv X pins σ (upd H l (.lst (xs.take a.toNat ++ ys ++ xs.drop c.toNat))) s' → Q () s') :
    wpAny (model X.prog X.w) X.A (setItem (.ref l) (.ref sl) (.ref b)) Q X.xe s := by
  obtain ⟨ta, rfl⟩ := ra
  obtain ⟨tc, rfl⟩ := rc
  obtain ⟨z, its, n, r, hl, e⟩ := I.lstM hH
  obtain ⟨z2, its2, n2, r2, hl2, e2⟩ := I.lstM hB
  obtain ⟨a', rfl⟩ := Int.eq_ofNat_of_zero_le h0
  obtain ⟨c', rfl⟩ := Int.eq_ofNat_of_zero_le (Int.le_trans h0 hac)
  simp only [Int.toNat_natCast] at h
  refine setItem_slice (a := a') (c := c') e e2 hne hs (.int _ _) (.int _ _) (by omega) (by rw [List.size_toArray]; omega) (by rw [List.size_toArray, List.size_toArray]; omega) (h _ ?_)
  refine I.lset (its' := its.take a' ++ its2 ++ its.drop c') (t' := s.toks) hH e ?_ (Vals.append (Vals.append (r.take _) r2) (r.drop _)) ?_
  · exact splice_eq its its2 a' c'
  · rw [List.length_append, List.length_append, List.length_take, List.length_drop]
    omega
end
end L2

namespace Att
open PySem PySem.W PySem.Calls PyProof.Rows

/-! ### the script -/
theorem ints_of_wellAll {P : Params} {h : Heap} : ∀ (ns : List Int) (vs : List Value), WellAll P h vs (ns.map WData.int) → IntsAre vs ns := by
  intro ns
  induction ns with
  | nil =>
    intro vs w
    rw [List.map_nil] at w
    cases w
    exact .nil
  | cons n ns ih =>
    intro vs w
    rw [List.map_cons] at w
    cases w with
    | cons a b =>
      cases a
      exact .cons _ _ (ih _ b)

theorem script_of {l : OpenLaw} {n : Nat} (hn : l.most = some n) {P : Params} {h : Heap} {args : List WData} {vals : List Value}
    (hpre : l.row.toRowW.claim.pre args = true) (hwl : WellAll P h vals args) :
    ∃ a vs ns, vals = [Value.ref a] ∧ args = [WData.list (ns.map WData.int)] ∧ h.get? a = some { cls := .type "list", data := .seq vs.toArray } ∧ IntsAre vs ns ∧ ns.length ≤ n := by
  have hsh : WShape.hasAll [] args [.list .int] = true := (pre_splitW hpre).1
  have hc : l.pre.holds [] { args := args } = true := (pre_splitW hpre).2
  obtain ⟨d, r, rfl, h1, h2⟩ := hasAllW_cons hsh
  obtain rfl := hasAllW_nil h2
  obtain ⟨xs, rfl, h3⟩ := hasW_list h1
  obtain ⟨ns, rfl⟩ := items_int h3
  have hlen : ns.length ≤ n := by
    unfold OpenLaw.pre at hc
    have h4 : (WTm.not (.lt (.lit (.int (n : Int))) (.len (.arg 0)))).holds [] { args := [.list (ns.map .int)] } = true := by
      have h4 := (holds_andW hc).1
      rw [hn] at h4
      exact h4
    have h5 := condW_of h4 (w_not (w_lt w_lit (w_len_list (w_arg rfl))))
    rw [List.length_map] at h5
    refine Nat.le_of_not_lt fun q => ?_
    have q' : (n : Int) < ((ns.length : Nat) : Int) := by omega
    first
      | (rw [decide_eq_true q'] at h5; exact absurd h5 (by decide))
      | (simp at h5; omega)
  cases hwl with
  | cons w1 w2 =>
    cases w2
    cases w1 with
    | list ho hall => exact ⟨_, _, ns, rfl, rfl, ho, ints_of_wellAll ns _ hall, hlen⟩

theorem post_true (l : OpenLaw) (args : List WData) : l.row.toRowW.claim.post args (.bool true) args = true :=
  postW_of (r := l.row.toRowW) (X := (true == true))
    (show WShape.has [] (.bool true) .bool = true by first | rfl | decide | simp [WShape.has, WShape.arms, WShape.armsAll])
    (show (WTm.eq .res (.lit (.bool true))).value [] { args := args, res := some (.bool true), after := args } = some (.bool (true == true)) from w_eq_bool (w_res rfl) w_lit) rfl

/-! ### the attachment: holds_open's last premise (the goal 'hc' behind k_head) from a wpAny of the law's body -/
theorem attach {l : OpenLaw} {n : Nat} {q : Program} {loose : List Str} {XP : (Str → Option Value) → Heap → Prop} {YP : World → Heap → Prop} {d : DefRec} {x : Str}
    (hn : l.most = some n) (hdf : d.params.defaults = [])
    (hbind : ∀ pm cd doc v : Value, bindArgs (docDef d.name d.params d.body d.scope pm cd doc) ⟨[v], []⟩ = pure [(x, v)])
    (hx : d.scope.names.lookup x = some .local ∨ d.scope.names.lookup x = some .cell)
    (hk : d.scope.kind = .function) (hco : d.scope.isCoroutine = false) (hgen : d.scope.isGenerator = false)
    (body : ∀ (w : World) (s₀ s₁ s : Shared) (mg mb : Str → Option Value) (fa : Addr) (o : Obj) (pm cd doc : Value) (a : Addr) (vs : List Value) (ns : List Int),
      Ground q loose [] XP w s₀ mg mb s₁.heap → YP w s₁.heap →
      s₁.heap.get? fa = some o → o.data = .func (docDef d.name d.params d.body d.scope pm cd doc) → s₁.heap.CodeRec cd d.name → mg d.name = some (.ref fa) →
      s₁.heap.get? a = some { cls := .type "list", data := .seq vs.toArray } → IntsAre vs ns → ns.length ≤ n →
      s.gens = #[] → s.os = s₁.os →
      Fr s₁.heap s₁.heap.objs.size s.heap (bindL (envOfC d.name d.scope s₁.heap.objs.size fa cd).kindOf [(x, .ref a)] fun _ => none) →
      Cl s₁.heap.objs.size (cellsFrom (s₁.heap.objs.size + 1) d.scope.names []) s.heap (bindC (envOfC d.name d.scope s₁.heap.objs.size fa cd).kindOf [(x, .ref a)] fun _ => none) →
      wpAny (model l.prog w) (callerA.deeper (envOfC d.name d.scope s₁.heap.objs.size fa cd)) (execs d.body (envOfC d.name d.scope s₁.heap.objs.size fa cd))
        (fun f s' => f = .ret (.bool true) ∧ OldK s₁.heap s'.heap ∧ s'.os = s₁.os ∧ AllBare s'.gens) (fun _ _ => False) s) :
    WalkO q loose XP YP l.row.toRowW d [] (fun f vs => PySem.call f vs) := by
  intro w s₀ s₁ mg mb G Y fa o pm cd doc dV kV ho hd hcd hD hmg hg args vals as hpre hlay hrd hwl hlo
  obtain rfl : dV = .none := Dflts.none hD hdf
  obtain rfl : kV = .none := Dflts.noKw hD
  obtain ⟨a, vs, ns, rfl, rfl, hobj, hints, hlen⟩ := script_of hn hpre hwl
  refine enter_call ?_
  refine call_cells_ret (o := o) (by rw [depth_caller]; decide) ho (fd_plain hd) G.T.nolimit hcd (hbind pm cd doc (.ref a)) (fun y hy => ?_) (fun h₁ tk F X => ?_) hco hgen hk
  · obtain rfl : y = (x, Value.ref a) := List.mem_singleton.mp hy
    rcases hx with e | e
    · exact .inl e
    · exact .inr ⟨e, cellsFrom_some _ _ _ (.inl e)⟩
  · refine wpAny_mono (body w s₀ s₁ { s₁ with heap := h₁, toks := tk } mg mb fa o pm cd doc a vs ns G Y ho (fd_plain hd) hcd hmg hobj hints hlen hg rfl F X) (fun f s' hq => ?_) (fun _ _ hq => hq)
    obtain ⟨rfl, h2, h3, h4⟩ := hq
    exact ⟨.inl ⟨.bool true, .bool true, [], rfl, fun _ => rfl, .bool true, post_true l _, fun _ => ⟨List.Pairwise.nil, fun _ hm => (nomatch hm)⟩⟩, h2, h3, h4⟩

/-- the same from a codeAny of the CALL (for a layer whose function contracts speak of calls) -/
theorem attach_call {l : OpenLaw} {n : Nat} {q : Program} {loose : List Str} {XP : (Str → Option Value) → Heap → Prop} {YP : World → Heap → Prop} {d : DefRec}
    (hn : l.most = some n) (hdf : d.params.defaults = [])
    (call : ∀ (w : World) (s₀ s₁ : Shared) (mg mb : Str → Option Value) (fa : Addr) (o : Obj) (pm cd doc : Value) (a : Addr) (vs : List Value) (ns : List Int),
      Ground q loose [] XP w s₀ mg mb s₁.heap → YP w s₁.heap →
      s₁.heap.get? fa = some o → o.data = .func (docDef d.name d.params d.body d.scope pm cd doc) → s₁.heap.CodeRec cd d.name → mg d.name = some (.ref fa) →
      s₁.heap.get? a = some { cls := .type "list", data := .seq vs.toArray } → IntsAre vs ns → ns.length ≤ n → s₁.gens = #[] →
      codeAny (model l.prog w) callerA (.call (.ref fa) ⟨[.ref a], []⟩) (fun r s' => r = .ok (.ret (.bool true)) ∧ OldK s₁.heap s'.heap ∧ s'.os = s₁.os ∧ AllBare s'.gens) s₁) :
    WalkO q loose XP YP l.row.toRowW d [] (fun f vs => PySem.call f vs) := by
  intro w s₀ s₁ mg mb G Y fa o pm cd doc dV kV ho hd hcd hD hmg hg args vals as hpre hlay hrd hwl hlo
  obtain rfl : dV = .none := Dflts.none hD hdf
  obtain rfl : kV = .none := Dflts.noKw hD
  obtain ⟨a, vs, ns, rfl, rfl, hobj, hints, hlen⟩ := script_of hn hpre hwl
  refine enter_call (codeAny_mono (call w s₀ s₁ mg mb fa o pm cd doc a vs ns G Y ho (fd_plain hd) hcd hmg hobj hints hlen hg) fun r s' hq => ?_)
  obtain ⟨rfl, h2, h3, h4⟩ := hq
  exact ⟨.inl ⟨.bool true, .bool true, [], rfl, fun _ => rfl, .bool true, post_true l _, fun _ => ⟨List.Pairwise.nil, fun _ hm => (nomatch hm)⟩⟩, h2, h3, h4⟩

/-- the same where the top left finished generators (o_head chose holds_openN): nothing may have changed at all and no generator may be left -/
theorem attachN {l : OpenLaw} {n : Nat} {q : Program} {loose : List Str} {XP : (Str → Option Value) → Heap → Prop} {YP : World → Heap → Prop} {d : DefRec} {x : Str}
    (hn : l.most = some n) (hdf : d.params.defaults = [])
    (hbind : ∀ pm cd doc v : Value, bindArgs (docDef d.name d.params d.body d.scope pm cd doc) ⟨[v], []⟩ = pure [(x, v)])
    (hx : d.scope.names.lookup x = some .local ∨ d.scope.names.lookup x = some .cell)
    (hk : d.scope.kind = .function) (hco : d.scope.isCoroutine = false) (hgen : d.scope.isGenerator = false)
    (body : ∀ (w : World) (s₀ s₁ s : Shared) (mg mb : Str → Option Value) (fa : Addr) (o : Obj) (pm cd doc : Value) (a : Addr) (vs : List Value) (ns : List Int),
      Ground q loose [] XP w s₀ mg mb s₁.heap → YP w s₁.heap →
      s₁.heap.get? fa = some o → o.data = .func (docDef d.name d.params d.body d.scope pm cd doc) → s₁.heap.CodeRec cd d.name → mg d.name = some (.ref fa) →
      s₁.heap.get? a = some { cls := .type "list", data := .seq vs.toArray } → IntsAre vs ns → ns.length ≤ n →
      s.gens = #[] → s.os = s₁.os →
      Fr s₁.heap s₁.heap.objs.size s.heap (bindL (envOfC d.name d.scope s₁.heap.objs.size fa cd).kindOf [(x, .ref a)] fun _ => none) →
      Cl s₁.heap.objs.size (cellsFrom (s₁.heap.objs.size + 1) d.scope.names []) s.heap (bindC (envOfC d.name d.scope s₁.heap.objs.size fa cd).kindOf [(x, .ref a)] fun _ => none) →
      wpAny (model l.prog w) (callerA.deeper (envOfC d.name d.scope s₁.heap.objs.size fa cd)) (execs d.body (envOfC d.name d.scope s₁.heap.objs.size fa cd))
        (fun f s' => f = .ret (.bool true) ∧ (∀ b o, s₁.heap.get? b = some o → s'.heap.get? b = some o) ∧ s'.os = s₁.os ∧ s'.gens = #[]) (fun _ _ => False) s) :
    WalkN q loose XP YP l.row.toRowW d [] (fun f vs => PySem.call f vs) := by
  intro w s₀ s₁ mg mb G Y fa o pm cd doc dV kV ho hd hcd hD hmg hg args vals as hpre hlay hrd hwl hlo
  obtain rfl : dV = .none := Dflts.none hD hdf
  obtain rfl : kV = .none := Dflts.noKw hD
  obtain ⟨a, vs, ns, rfl, rfl, hobj, hints, hlen⟩ := script_of hn hpre hwl
  refine enter_callW ?_
  refine call_cells_ret (o := o) (by rw [depth_caller]; decide) ho (fd_plain hd) G.T.nolimit hcd (hbind pm cd doc (.ref a)) (fun y hy => ?_) (fun h₁ tk F X => ?_) hco hgen hk
  · obtain rfl : y = (x, Value.ref a) := List.mem_singleton.mp hy
    rcases hx with e | e
    · exact .inl e
    · exact .inr ⟨e, cellsFrom_some _ _ _ (.inl e)⟩
  · refine wpAny_mono (body w s₀ s₁ { s₁ with heap := h₁, toks := tk } mg mb fa o pm cd doc a vs ns G Y ho (fd_plain hd) hcd hmg hobj hints hlen hg rfl F X) (fun f s' hq => ?_) (fun _ _ hq => hq)
    obtain ⟨rfl, h2, h3, h4⟩ := hq
    exact ⟨.inl ⟨.bool true, .bool true, [], rfl, fun _ => rfl, .bool true, post_true l _, fun _ => ⟨List.Pairwise.nil, fun _ hm => (nomatch hm)⟩⟩, h2, h3, h4⟩

/-! ### rules over ANY heap (no ledger) from facts about the written part K: the library's own take a ledger (News) for what they write -/
section
variable {prog : Program} {w : World} {A : Around} {E : Value → Shared → Prop} {s : Shared} {K : Frag}

/-- a def of the module, or a method (qual 'C.m'), entered: the frame is the next address; cells behind it -/
theorem call_fn {R : Result → Shared → Prop} {name qual : Str} {params : Arguments} {body : List Stmt} {scope : Scope} {dV kV doc pm cdv ct oc : Value} {an od : Option Addr} {osl : Array (Option Value)} {f : Addr} {args : Args} {binds : List (Str × Value)}
    (X : K.In s.heap) (hlim : s.heap.NoLimit) (ho : K.lookup f = some ⟨oc, od, .func (fnOf name qual params body scope dV kV doc pm an cdv ct), osl⟩) (hcd : codeIn K cdv qual = true) (hroom : A.depth < recursionLimit)
    (hbind : BindsTo s (fnOf name qual params body scope dV kV doc pm an cdv ct) args binds)
    (hkind : (binds.all fun y => scope.names.lookup y.1 == some .local || scope.names.lookup y.1 == some .cell) = true)
    (h : ∀ s₁, InCallC s s.heap.objs.size (bindL (envOfC qual scope s.heap.objs.size f cdv).kindOf binds fun _ => none) (cellsFrom (s.heap.objs.size + 1) scope.names [])
        (bindC (envOfC qual scope s.heap.objs.size f cdv).kindOf binds fun _ => none) s₁ →
      wpAny (model prog w) (A.deeper (envOfC qual scope s.heap.objs.size f cdv)) (execs body (envOfC qual scope s.heap.objs.size f cdv))
        (fun fl s' => R (.ok (.ret (match fl with | .ret v => v | _ => .none))) s')
        (fun e s' => wpAny (model prog w) (A.deeper (envOfC qual scope s.heap.objs.size f cdv)) (leaving (envOfC qual scope s.heap.objs.size f cdv) e) (fun _ s'' => R (.error e) s'') (fun e' s'' => R (.error e') s'') s') s₁)
    (hco : scope.isCoroutine = false) (hgen : scope.isGenerator = false) (hk : scope.kind = .function) : codeAny (model prog w) A (.call (.ref f) args) R s := by
  refine codeAny_call_function hroom (X _ _ ho) rfl hco hgen rfl (codeRec_of X hcd) (hbind _ _ _ _ ?_)
  refine wpAny_newFunctionEnv_cells hk (kindsX hkind _) fun env he s₁ x => ?_
  subst he
  exact ⟨hlim.keeps x.toInCall.keep, codeAny_func (h s₁ x)⟩

/-- C(..): dict at size, instance at size + 1, then __init__ -/
theorem make_obj {R : Result → Shared → Prop} {C fI : Addr} {rest : List Value} {kw : List (Str × Value)}
    (X : K.In s.heap) (hm : makesIn K C = true) (hi : findIn K (.ref C) "__init__" = some (some (.ref fI))) (hf : isFn K (.ref fI) = true)
    (h : codeAny (model prog w) (A.under (.builtin "type.__call__" ⟨.ref C :: rest, kw⟩)) (.call (.ref fI) ⟨.ref (s.heap.objs.size + 1) :: rest, kw⟩) (InitBack (s.heap.objs.size + 1) R)
      { s with heap := (s.heap.push emptyDict).push (instObj C s.heap.objs.size) }) : codeAny (model prog w) A (.call (.ref C) ⟨rest, kw⟩) R s := by
  obtain ⟨hh, g, d, t, os⟩ := s
  exact make_core (makes_of X hm) (looks_findIn X hi) (fun self => bind_fn X self (beq_iff_eq.mp hf)) (.inl rfl) h

/-- x.name where the instance's dict holds the name and the class does not -/
theorem get_field {x C : Addr} {ox : Obj} {es : List DictEntry} {n : Nat} {name : Str} {expr : Bool} {v : Value} {Q : Value → Shared → Prop}
    (X : K.In s.heap) (I : PySem.W.InstAt s.heap x ox C (some (dictOf es n))) (hg : plainGet K C name = true) (hh : hasDictIn K C = true) (ha : findIn K (.ref C) name = some none)
    (hl : getL name es = some (some v)) (hv : handedIn v = true) (h : Q v { s with toks := s.toks + 1 }) : wpAny (model prog w) A (getAttr (.ref x) name expr) Q E s :=
  get_value X I (plainGet_of hg).1 (findObj_own hh ha rfl hl) hv h

/-- x.m(..): the method found in the class -/
theorem get_method {x C f : Addr} {ox : Obj} {es : List DictEntry} {n : Nat} {name : Str} {pl : Sem Bool} {Q : Value × List Value → Shared → Prop}
    (X : K.In s.heap) (I : PySem.W.InstAt s.heap x ox C (some (dictOf es n))) (hg : plainGet K C name = true) (hf : findIn K (.ref C) name = some (some (.ref f))) (ht : isFn K (.ref f) = true)
    (hl : getL name es = some none) (h : Q (.ref f, [.ref x]) s) : wpAny (model prog w) A (getMethod (.ref x) name pl) Q E s :=
  method_fn X I (plainGet_of hg).1 (plainGet_of hg).2 hf (beq_iff_eq.mp ht) (by show (lookIn name (dictOf es n)).map _ = _; rw [lookIn_dict, hl]; rfl) h

/-! the whole heap as the ledger: makes every rule that writes through a ledger a rule over any heap -/
def noObjs (h : Heap) : Heap := { h with objs := #[] }
theorem noObjs_get (h : Heap) (b : Addr) : (noObjs h).get? b = none := by
  cases e : (noObjs h).get? b with
  | none => rfl
  | some o => exact absurd (Heap.lt_size e) (Nat.not_lt_zero _)
def ledger (h : Heap) (L d : Addr) : List (Addr × Obj) := (List.range h.objs.size).filterMap fun a => if a = L ∨ a = d then none else (h.get? a).map fun o => (a, o)
theorem mem_ledger {h : Heap} {L d a : Addr} {o : Obj} : (a, o) ∈ ledger h L d ↔ a ≠ L ∧ a ≠ d ∧ h.get? a = some o := by
  unfold ledger
  rw [List.mem_filterMap]
  constructor
  · rintro ⟨b, _, e⟩
    split at e
    · cases e
    · rename_i hb
      obtain ⟨o', ho, e'⟩ := Option.map_eq_some_iff.mp e
      cases e'
      exact ⟨fun q => hb (.inl q), fun q => hb (.inr q), ho⟩
  · rintro ⟨n1, n2, ho⟩
    refine ⟨a, List.mem_range.mpr (Heap.lt_size ho), ?_⟩
    rw [if_neg (show ¬ (a = L ∨ a = d) from fun q => q.elim n1 n2), ho] <;> rfl
theorem news_ledger {h : Heap} {L d : Addr} {od : Obj} (hne : d ≠ L) (ho : h.get? d = some od) : News (noObjs h) L h ([] ++ (d, od) :: ledger h L d) := by
  rintro ⟨a, o⟩ hp
  rcases List.mem_cons.mp hp with e | hp
  · cases e
    exact ⟨ho, hne, noObjs_get _ _⟩
  · obtain ⟨n1, n2, e⟩ := mem_ledger.mp hp
    exact ⟨e, n1, noObjs_get _ _⟩
theorem fr_all {h : Heap} {L : Addr} {m : Str → Option Value} (n : h.Ns L m) : Fr (noObjs h) L h m :=
  ⟨n, fun b o e => (by rw [noObjs_get] at e; cases e), Nat.zero_le _⟩
/-- Upd of the head entry (for append_K, setItem_K ..) -/
theorem upd_ledger {h : Heap} {L d : Addr} {o o' : Obj} : Upd d o o' ((d, o) :: ledger h L d) ((d, o') :: ledger h L d) :=
  .head fun ⟨_, _⟩ hp => (mem_ledger.mp hp).2.1

/-- x.name = v over any heap: L is any namespace of the heap (the frame's, say): its map stays, its object is not told; all else but the dict stays -/
theorem set_field {x C dx L : Addr} {ox : Obj} {m : Str → Option Value} {es es' : List DictEntry} {n n' : Nat} {name : Str} {v : Value} {Q : Unit → Shared → Prop}
    (X : K.In s.heap) (I : PySem.W.InstAt s.heap x ox C (some (dictOf es n))) (hd : ox.dict = some dx) (hL : s.heap.Ns L m) (hne : dx ≠ L)
    (hs : findIn K (.ref C) "__setattr__" = some (some (.builtin "object.__setattr__"))) (hp : plainOver K C = true) (ht : takerIn K C name = some none) (hh : hasDictIn K C = true) (hl : (getL name es).isSome = true)
    (e : (putL name (PyData.keyHash w.params name) (.str name (s.toks + 1)) v es, putN name es n) = (es', n')) (hz : es'.length ≤ 1000)
    (h : ∀ h' : Heap, h'.Ns L m → h'.get? dx = some (dictOf es' n') → (∀ b o, b ≠ dx → b ≠ L → s.heap.get? b = some o → h'.get? b = some o) → Q () { s with heap := h', toks := s.toks + 2 }) :
    wpAny (model prog w) A (setAttr (.ref x) name v) Q E s := by
  obtain ⟨e1, e2⟩ := Prod.mk.inj e
  have hdx : s.heap.get? dx = some (dictOf es n) := by
    have := I.dict
    rw [hd] at this
    exact this
  refine set_plain X I hs (osa_dict (s := { s with toks := s.toks + 1 }) (h₀ := noObjs s.heap) (L := L) (m := m) (od := dictOf es n) (od' := dictOf es' n') (es := es') (n := n') (pre := []) (post := ledger s.heap L dx)
    (fr_all hL) (news_ledger hne hdx) X I hd hp ht hh hl (fun _ q => nomatch q) (fun ⟨_, _⟩ q => (mem_ledger.mp q).2.1) (by rw [putName_dict, e1, e2]) rfl hz fun h' F' N' => ?_)
  exact h h' F'.ns (N'.get (List.Mem.head _)) fun b o n1 n2 ho => N'.get (List.Mem.tail _ (mem_ledger.mpr ⟨n2, n1, ho⟩))
end
end Att

namespace L2
open PySem PySem.Spec PyProof.Rows

theorem vals_ints : ∀ {vs : List Value} {ns : List Int}, IntsAre vs ns → Vals (ns.map V.int) vs
  | _, _, .nil => .nil
  | _, _, .cons n t h => .cons ⟨t, rfl⟩ (vals_ints h)

/-- nothing is tracked but the script, known to the object (or it is an object of the module) -/
def Only (H : Hp) : Prop := ∀ b, H b = none ∨ ∃ o xs, H b = some (.frz o (.lst xs))

/-- THE HEAD: the law's promise, at the heap behind the top. F, the promise of the law's def, may use that base is part of the heap (so K.In base, base.Ns mainGlobals mg stand in Mod) -/
theorem law_call {P : Program} {w : World} {K : PySem.W.Frag} {mg mb : Str → Option Value} {CX : CXT} {k : Nat} {fa a : Addr} {fd : FuncData} {x : Str} {sp : Sp} {s₁ : Shared} {vs : List Value} {ns : List Int}
    (KX : K.In s₁.heap) (hns : s₁.heap.Ns mainGlobals mg) (hb : s₁.heap.Ns builtinsNs mb) (hbb : ∀ x : Str, x ≠ "__name__" → mb x = bootBuiltins x) (hlim : s₁.heap.NoLimit) (hg : s₁.gens = #[])
    (ha : s₁.heap.get? a = some { cls := .type "list", data := .seq vs.toArray }) (hi : IntsAre vs ns) (hl : ns.length ≤ sizeLine) (hr : Room k callerA)
    (F : ∀ base : Heap, K.In base → base.Ns mainGlobals mg → FnOk P w K mg base CX k fa fd [x] sp) (hbind : ∀ (s : Shared) (u : Value), BindsTo s fd ⟨[u], []⟩ [(x, u)])
    (hsp : ∀ H : Hp, Only H → SqL K H a (ns.map V.int) → sp [.ref a] H (fun v _ => v = .bl true) fun _ _ _ => False)
    (hCX : ∀ H e s', CX [] H s₁ (fun _ _ _ => False) e s' → False) :
    codeAny (model P w) callerA (.call (.ref fa) ⟨[.ref a], []⟩) (fun r s' => r = .ok (.ret (.bool true)) ∧ OldK s₁.heap s'.heap ∧ s'.os = s₁.os ∧ AllBare s'.gens) s₁ := by
  have rv := vals_ints hi
  have lenV := hi.length
  -- from an abstract heap in which nothing but the script may be tracked
  have core : ∀ H : Hp, Only H → SqL K H a (ns.map V.int) → HOk P w H s₁.heap → (∀ b, H b ≠ none → b = a) → (H a ≠ none → K.lookup a = none) →
      codeAny (model P w) callerA (.call (.ref fa) ⟨[.ref a], []⟩) (fun r s' => r = .ok (.ret (.bool true)) ∧ OldK s₁.heap s'.heap ∧ s'.os = s₁.os ∧ AllBare s'.gens) s₁ := by
    intro H hO hS hok hA hK
    have base_of : ∀ {b : Addr} {o : Obj}, s₁.heap.get? b = some o → H b = none → (hidT s₁.heap H).get? b = some o := fun e n => hidT_get e n
    have noA : ∀ {b : Addr} {o : Obj} {es : Array DictEntry} {ep : Nat}, s₁.heap.get? b = some o → o.data = .dict es ep → H b = none := fun {b o es ep} e d => by
      cases q : H b with
      | none => rfl
      | some u =>
        have e' : b = a := hA b (by rw [q]; simp)
        subst e'
        rw [ha] at e; cases e
        have d' : Data.seq vs.toArray _ = Data.dict es ep := d
        cases d'
    have nsK : ∀ {b : Addr} {m : Str → Option Value}, s₁.heap.Ns b m → (hidT s₁.heap H).Ns b m := fun {b m} ⟨o, es, ep, e, d, r⟩ => ⟨o, es, ep, base_of e (noA e d), d, r⟩
    have hKb : K.In (hidT s₁.heap H) := fun b o e => base_of (KX b o e) (by
      cases q : H b with
      | none => rfl
      | some u =>
        have e' : b = a := hA b (by rw [q]; simp)
        subst e'
        rw [hK (by rw [q]; simp)] at e; cases e)
    have hM : Mod K mg (hidT s₁.heap H) := ⟨hKb, nsK hns, ⟨mb, nsK hb, hbb⟩, let ⟨mc, h1, h2⟩ := hlim; ⟨mc, nsK h1, h2⟩⟩
    have e0 : Env0 P w K mg (hidT s₁.heap H) callerA [] s₁ H := ⟨rfl, hM, fun b o e => of_hidT e, Nat.le_of_eq (hidT_size _ _), trivial, fun b hb => absurd (show b ∈ ([] : List Addr) from hb) (by simp), hok, .of_eq hg⟩
    refine codeAny_mono ((F _ hKb (nsK hns)).run callerA [] s₁ H ⟨[.ref a], []⟩ [.ref a] [.ref a] _ _ hr e0 (hbind s₁ (.ref a)) (.cons rfl .nil) (hsp H hO hS)) fun r s' h => ?_
    cases r with
    | error e => exact (hCX H e s' h).elim
    | ok fl =>
      cases fl with
      | next => exact False.elim h
      | brk => exact False.elim h
      | cont => exact False.elim h
      | ret u =>
        obtain ⟨v, H', os, bare, un, hok', r', q⟩ := h
        have q' : v = .bl true := q
        subst q'
        obtain rfl : u = Value.bool true := r'
        refine ⟨rfl, OldK.of_keep fun b o e => ?_, os, bare⟩
        cases q : H b with
        | none => exact un.keep b o e q (by intro z; exact absurd (show b ∈ ([] : List Addr) from z) (by simp)) (by simp)
        | some u =>
          rcases hO b with z | ⟨ob, xs, z⟩
          · rw [q] at z; cases z
          · have z2 := un.frzs b ob _ z
            obtain ⟨e1, _⟩ := hok b _ z
            obtain ⟨e2, _⟩ := hok' b _ z2
            rw [e] at e1; cases e1
            exact e2
  cases hk : K.lookup a with
  | some o =>
    -- the script is one of the module's own objects
    have e := KX a o hk
    rw [ha] at e
    cases e
    refine core (fun _ => none) (fun _ => .inl rfl) (.inr ⟨_, vs.toArray, _, hk, rfl, rfl, rfl, by rw [List.size_toArray, lenV]; exact hl, by simpa using rv⟩) (fun b u z => by have z' : (none : Option HO) = some u := z; cases z') (fun b z => absurd rfl z) fun z => absurd rfl z
  | none =>
    refine core (fun b => if b = a then some (.frz { cls := .type "list", data := .seq vs.toArray } (.lst (ns.map V.int))) else none) (fun b => ?_) (.inl (.inr ⟨{ cls := .type "list", data := .seq vs.toArray }, if_pos rfl⟩)) (fun b u z => ?_) (fun b z => ?_) fun _ => hk
    · by_cases hb : b = a
      · exact .inr ⟨_, _, if_pos hb⟩
      · exact .inl (if_neg hb)
    · by_cases hb : b = a
      · have z' := (if_pos hb).symm.trans z
        cases z'
        subst hb
        exact ⟨ha, by rw [List.length_map]; exact hl, vs, _, rv, ha⟩
      · have z' := (if_neg hb).symm.trans z
        cases z'
    · by_cases hb : b = a
      · exact hb
      · exact absurd (if_neg hb) z
end L2

namespace L2
open PySem PySem.Spec PyProof.Rows

abbrev KOf {K : PySem.W.Frag} {h : Heap} (_ : K.In h) : PySem.W.Frag := K

/-- the goal that k_head leaves (case hc), from the law's promise. F gives the function object fd (K's own) once, then the promise over every base -/
theorem walk_of {l : PySem.W.OpenLaw} {n k : Nat} {q : Program} {loose : List Str} {XP : (Str → Option Value) → Heap → Prop} {YP : World → Heap → Prop} {d : DefRec} {K : Params → PySem.W.Frag} {CX : World → CXT} {sp : World → Sp} {x : Str}
    (hn : l.most = some n) (hn2 : n ≤ sizeLine) (hdf : d.params.defaults = []) (hr : Room k callerA)
    (hY : ∀ (w : World) (h : Heap), YP w h → (K w.params).In h)
    (F : ∀ (w : World) (mg : Str → Option Value) (fa : Addr) (h : Heap), (K w.params).In h → h.Ns mainGlobals mg → mg d.name = some (.ref fa) →
      ∃ fd : FuncData, (∀ (s : Shared) (u : Value), BindsTo s fd ⟨[u], []⟩ [(x, u)]) ∧
        ∀ base : Heap, (K w.params).In base → base.Ns mainGlobals mg → FnOk l.prog w (K w.params) mg base (CX w) k fa fd [x] (sp w))
    (hsp : ∀ (w : World) (H : Hp) (a : Addr) (ns : List Int), ns.length ≤ n → Only H → SqL (K w.params) H a (ns.map V.int) → sp w [.ref a] H (fun v _ => v = .bl true) fun _ _ _ => False)
    (hCX : ∀ (w : World) (H : Hp) (s : Shared) (e : Value) (s' : Shared), CX w [] H s (fun _ _ _ => False) e s' → False) :
    PySem.W.WalkO q loose XP YP l.row.toRowW d [] (fun f vs => PySem.call f vs) := by
  refine Att.attach_call hn hdf fun w s₀ s₁ mg mb fa o pm cd doc a vs ns G Y ho hd hcd hmg hobj hints hlen hg => ?_
  have KX := hY w _ Y
  obtain ⟨fd, hb, hF⟩ := F w mg fa _ KX G.T.g hmg
  exact law_call KX G.T.g G.T.b G.T.builtins G.T.nolimit hg hobj hints (Nat.le_trans hlen hn2) hr hF hb (fun H hO hS => hsp w H a ns hlen hO hS) fun H e s' => hCX w H s₁ e s'
/-- the same where the promise hangs on the written part alone: (sp := My.sp_law), no hole under a binder -/
theorem walk_ofK {l : PySem.W.OpenLaw} {n k : Nat} {q : Program} {loose : List Str} {XP : (Str → Option Value) → Heap → Prop} {YP : World → Heap → Prop} {d : DefRec} {K : Params → PySem.W.Frag} {CX : CXT} {sp : PySem.W.Frag → Sp} {x : Str}
    (hn : l.most = some n) (hn2 : n ≤ sizeLine) (hdf : d.params.defaults = []) (hr : Room k callerA)
    (hY : ∀ (w : World) (h : Heap), YP w h → (K w.params).In h)
    (F : ∀ (w : World) (mg : Str → Option Value) (fa : Addr) (h : Heap), (K w.params).In h → h.Ns mainGlobals mg → mg d.name = some (.ref fa) →
      ∃ fd : FuncData, (∀ (s : Shared) (u : Value), BindsTo s fd ⟨[u], []⟩ [(x, u)]) ∧
        ∀ base : Heap, (K w.params).In base → base.Ns mainGlobals mg → FnOk l.prog w (K w.params) mg base CX k fa fd [x] (sp (K w.params)))
    (hsp : ∀ (K : PySem.W.Frag) (H : Hp) (a : Addr) (ns : List Int), ns.length ≤ n → Only H → SqL K H a (ns.map V.int) → sp K [.ref a] H (fun v _ => v = .bl true) fun _ _ _ => False)
    (hCX : ∀ (H : Hp) (s : Shared) (e : Value) (s' : Shared), CX [] H s (fun _ _ _ => False) e s' → False) :
    PySem.W.WalkO q loose XP YP l.row.toRowW d [] (fun f vs => PySem.call f vs) :=
  walk_of (K := K) (CX := fun _ => CX) (sp := fun w => sp (K w.params)) hn hn2 hdf hr hY F (fun w H a ns h1 h2 h3 => hsp (K w.params) H a ns h1 h2 h3) fun _ H s e s' => hCX H s e s'
end L2


/-! SHORT WORDS over the layer: a def of the text, its body, what a loop and a test want. -/
namespace L2
open PySem PySem.Spec PyProof.Rows

/-! ### the text by places -/
/-- the j-th statement of a class's body -/
def inClass (s : Stmt) (j : Nat) : Stmt := match s with
  | .ClassDef _ _ _ body _ _ _ _ _ _ _ => body.getD j (.Pass ⟨0, 0, 0, 0⟩)
  | _ => .Pass ⟨0, 0, 0, 0⟩
def defArgs (s : Stmt) : Arguments := match s with
  | .FunctionDef _ a _ _ _ _ _ _ _ _ => a
  | _ => { posonlyargs := [], args := [], vararg := none, kwonlyargs := [], kw_defaults := [], kwarg := none, defaults := [] }
def defBody (s : Stmt) : List Stmt := match s with
  | .FunctionDef _ _ b _ _ _ _ _ _ _ => b
  | _ => []
def defScope (s : Stmt) : Scope := match s with
  | .FunctionDef _ _ _ _ _ _ sc _ _ _ => sc
  | _ => { kind := .function, names := [], isGenerator := false, isCoroutine := false }

/-! ### no exception leaves a def -/
abbrev CX0 : CXT := fun _ _ _ _ _ _ => False
abbrev E0 : XK := fun _ _ _ => False
theorem pass0 {X : Cx} : Passes CX0 X E0 := fun _ _ _ _ _ _ _ h => h.elim

/-! ### a def (or method) of the text as it stands behind the top -/
structure Fun (K : PySem.W.Frag) (x qual : Str) (st : Stmt) (f : Addr) (fd : FuncData) : Prop where
  ex : ∃ (oc : Value) (od : Option Addr) (kV doc pm : Value) (an : Option Addr) (cdv ct : Value) (osl : Array (Option Value)),
    fd = PySem.W.fnOf x qual (defArgs st) (defBody st) (defScope st) .none kV doc pm an cdv ct ∧ K.lookup f = some ⟨oc, od, .func fd, osl⟩ ∧ PySem.W.codeIn K cdv qual = true
  kp : PySem.W.keepIn K (.ref f) = true
section
variable {P : Program} {w : World} {K : PySem.W.Frag} {mg : Str → Option Value} {base : Heap}
/-- THE RULE for a def: its body as a term of rules, and the reading of that term -/
theorem Fun.ok {x qual : Str} {st : Stmt} {f : Addr} {fd : FuncData} {N ps : List Str} {k : Nat} {sp : Sp} (F : Fun K x qual st f fd) (S : FnScope N ps (defScope st)) (len : ∀ vs H Q E, sp vs H Q E → vs.length = ps.length)
    (hbody : ∀ (cdv : Value) (A : Around) (outer : List Env) (s : Shared) (H : Hp) (vs : List V) (Q : VK) (E : XK), Room k (A.deeper (envOfC qual (defScope st) s.heap.objs.size f cdv)) → sp vs H Q E →
      ∃ t, PSs (cxOf CX0 P w K mg base N qual (defScope st) f cdv A outer s H E).nox (defBody st) t ∧ t { nx := fun _ H' => Q .non H', rt := Q } (start N vs) H) : FnOk P w K mg base CX0 (k + 1) f fd ps sp := by
  obtain ⟨oc, od, kV, doc, pm, an, cdv, ct, osl, rfl, lk, hcd⟩ := F.ex
  refine fn_of lk hcd S len fun A outer s H vs Q E hr hsp => ?_
  obtain ⟨t, h, q⟩ := hbody cdv A outer s H vs Q E hr hsp
  exact ⟨t, h.nox, q⟩
/-- how its arguments bind (no defaults): h is «fun _ _ _ _ _ _ us hl => match us, hl with | [_, _], _ => rfl», one _ a parameter -/
theorem Fun.binds {x qual : Str} {st : Stmt} {f : Addr} {fd : FuncData} {ps : List Str} (F : Fun K x qual st f fd)
    (h : ∀ (kV doc pm : Value) (an : Option Addr) (cdv ct : Value) (us : List Value), us.length = ps.length → bindArgs (PySem.W.fnOf x qual (defArgs st) (defBody st) (defScope st) .none kV doc pm an cdv ct) ⟨us, []⟩ = pure (ps.zip us)) : Binds K fd ps [] := by
  obtain ⟨oc, od, kV, doc, pm, an, cdv, ct, osl, rfl, lk, hcd⟩ := F.ex
  exact .all (h kV doc pm an cdv ct)
theorem fun_mk {x qual : Str} {st : Stmt} {f : Addr} {oc : Value} {od an : Option Addr} {osl : Array (Option Value)} {kV doc pm cdv ct : Value} (l : K.lookup f = some ⟨oc, od, .func (PySem.W.fnOf x qual (defArgs st) (defBody st) (defScope st) .none kV doc pm an cdv ct), osl⟩)
    (c : PySem.W.codeIn K cdv qual = true) (k : PySem.W.keepIn K (.ref f) = true) : Fun K x qual st f (PySem.W.fnOf x qual (defArgs st) (defBody st) (defScope st) .none kV doc pm an cdv ct) := ⟨⟨oc, od, kV, doc, pm, an, cdv, ct, osl, rfl, l, c⟩, k⟩
end
theorem hu_of {A : Around} {k : Nat} (hr : Room k A) : A.units + 1 < cLine := Nat.lt_of_le_of_lt (Nat.add_le_add_left (by decide : 1 ≤ 64) _) hr.units
theorem small1000 {n : Nat} (h : n ≤ 1000) : n < sizeLine := Nat.lt_of_le_of_lt h (by decide)

/-! ### expressions in short: the name that stands in the i-th slot -/
section
variable {X : Cx}
theorem pv (i : Nat) {x : Str} {pos : Pos} (hN : X.N[i]? = some x := by rfl) (hv : Vis X.env.scope x := by first | exact Or.inl rfl | exact Or.inr (Or.inl rfl) | exact Or.inr (Or.inr rfl)) (hd : (x == ("__debug__" : Str)) = false := by decide)
    (hcd : (x == ("__classdict__" : Str)) = false := by decide) : PE X (.Name x pos) (tVar i) := pe_var hN hv hd hcd
end

/-! ### tests -/
theorem iteF {A B : Prop} (h : B) : if false = true then A else B := by
  rw [if_neg Bool.false_ne_true]
  exact h
theorem iteT {A B : Prop} (h : A) : if true = true then A else B := by
  rw [if_pos rfl]
  exact h
theorem ite2 {c A B : Prop} [Decidable c] (h1 : c → A) (h2 : ¬ c → B) : if c then A else B := by
  by_cases h : c
  · rw [if_pos h]
    exact h1 h
  · rw [if_neg h]
    exact h2 h
theorem iteNS {c A B : Prop} [Decidable c] (hc : c) (h : B) : if (!decide c) = true then A else B := by
  rw [decide_eq_true hc]
  exact iteF h

/-! ### heaps -/
/-- all that was tracked is as it was -/
def Same (H H' : Hp) : Prop := ∀ b o, H b = some o → H' b = some o
theorem Same.refl (H : Hp) : Same H H := fun _ _ h => h
theorem Same.trans {H H1 H2 : Hp} (a : Same H H1) (b : Same H1 H2) : Same H H2 := fun c o h => b c o (a c o h)
theorem Same.free {H H' : Hp} (e : Same H H') {l : Addr} (h : H' l = Option.none) : H l = Option.none := by
  cases q : H l with
  | none => rfl
  | some o =>
    rw [e l o q] at h
    cases h
theorem Same.seq {K : PySem.W.Frag} {H H' : Hp} {a : Addr} {xs : List V} (e : Same H H') (h : SqL K H a xs) : SqL K H' a xs := by
  rcases h with (h | ⟨o, h⟩) | h
  · exact .inl (.inl (e _ _ h))
  · exact .inl (.inr ⟨o, e _ _ h⟩)
  · exact .inr h

end L2
end
section
set_option linter.all false
namespace M
open PySem (Str Operator CmpOp)

/-! ### data, store -/
inductive D where
  | non | bl (b : Bool) | int (i : Int) | str (s : Str) | tup (ds : List D) | loc (l : Nat)
  deriving Inhabited
inductive Cell where
  | lst (w : Bool) (ds : List D)
  deriving Inhabited
abbrev Store := List Cell
abbrev Sl := List (Option D)
def lim : Nat := 16777216

inductive Ty where
  | non | bl | int | str | tup | lst
  deriving DecidableEq
def Ty.name : Ty → String
  | .non => "NoneType"
  | .bl => "bool"
  | .int => "int"
  | .str => "str"
  | .tup => "tuple"
  | .lst => "list"
inductive B where
  | len | min | max | tuple | list | all | sorted | int | str
inductive Mt where
  | append | find | join
/-! ### the text without its places -/
inductive T where
  | var (i : Nat)
  | tup (is : List Nat)
def T.slots : T → List Nat
  | .var i => [i]
  | .tup is => is
inductive E where
  | var (i : Nat)
  | lit (d : D)
  | glo (x : Str) (d : D)
  | bin (op : Operator) (a b : E)
  | neg (a : E)
  | not (a : E)
  | cmp (op : CmpOp) (a b : E)
  | cmp2 (op op' : CmpOp) (a b c : E)
  | and (a b : E)
  | or (a b : E)
  | ite (c a b : E)
  | tup (es : List E)
  | lst (es : List E)
  | idx (a b : E)
  | sli (a : E) (lo hi : Option E)
  | call (f : Nat) (es : List E)
  | bcall (f : B) (es : List E)
  | isi (a : E) (ts : List Ty) (many : Bool)
  | meth (a : E) (m : Mt) (es : List E)
  | rng1 (a : E)
  | rng2 (a b : E)
  | zip (a b : E)
  | comp (t : T) (it : E) (test : Option E) (elt : E) (src : List (Option Nat))
inductive S where
  | set (t : T) (e : E)
  | setIx (a i e : E)
  | expr (e : E)
  | ret (e : E)
  | retN
  | ite (c : E) (a b : List S)
  | forr (t : T) (it : E) (body : List S)
  | whil (c : E) (body : List S)
  | aug (i : Nat) (op : Operator) (e : E)
  | brk | cnt | pass
structure Fn where
  np : Nat
  nl : Nat
  body : List S

/-! ### operations on data -/
mutual
def eqT : D → D → Bool
  | .non, .non => true
  | .bl a, .bl b => a == b
  | .bl a, .int j => (if a then 1 else 0) == j
  | .int i, .bl b => i == (if b then 1 else 0)
  | .int i, .int j => i == j
  | .str a, .str b => a == b
  | .tup a, .tup b => eqTs a b
  | _, _ => false
def eqTs : List D → List D → Bool
  | [], [] => true
  | a :: as, b :: bs => eqT a b && eqTs as bs
  | _, _ => false
end
mutual
/-- no place of the store within, at most n deep -/
def flat : Nat → D → Bool
  | _, .loc _ => false
  | 0, .tup _ => false
  | n + 1, .tup ds => flats n ds
  | _, _ => true
def flats : Nat → List D → Bool
  | _, [] => true
  | n, d :: ds => flat n d && flats n ds
end
def mulOk (i j : Int) : Bool := (decide (-(2 ^ 64) < i) && decide (i < 2 ^ 64)) || (decide (-(2 ^ 64) < j) && decide (j < 2 ^ 64))
def listAt (st : Store) (l : Nat) : Option (List D) := match st[l]? with | some (.lst _ ds) => some ds | _ => none
def wlistAt (st : Store) (l : Nat) : Option (List D) := match st[l]? with | some (.lst true ds) => some ds | _ => none
def alloc (st : Store) (c : Cell) : D × Store := (.loc st.length, st ++ [c])
def binop (st : Store) : Operator → D → D → Option (D × Store)
  | .Add, .int i, .int j => some (.int (i + j), st)
  | .Add, .tup a, .tup b => if a.isEmpty || decide (lim < a.length + b.length) then none else some (.tup (a ++ b), st)
  | .Add, .loc a, .loc b => (wlistAt st a).bind fun x => (wlistAt st b).bind fun y => if lim < x.length + y.length then none else some (alloc st (.lst true (x ++ y)))
  | .Add, .str a, .str b => if lim < a.length + b.length then none else some (.str (a ++ b), st)
  | .Sub, .int i, .int j => some (.int (i - j), st)
  | .Mult, .int i, .int j => if mulOk i j then some (.int (i * j), st) else none
  | .Mult, .tup a, .int k => if decide (k < -(2 ^ 62)) || decide (2 ^ 62 ≤ k) || decide (lim < a.length * k.toNat) then none else some (.tup (List.replicate k.toNat a).flatten, st)
  | .Mult, .loc l, .int k => (wlistAt st l).bind fun a => if decide (k < -(2 ^ 62)) || decide (2 ^ 62 ≤ k) || decide (lim < a.length * k.toNat) then none else some (alloc st (.lst true (List.replicate k.toNat a).flatten))
  | .FloorDiv, .int i, .int j => if 0 < j ∧ j < 2 ^ 64 then some (.int (i / j), st) else none
  | .Mod, .int i, .int j => if 0 < j then some (.int (i % j), st) else none
  | .Pow, .int i, .int j => if 0 ≤ j ∧ j ≤ 1000 ∧ i.natAbs < 2 ^ 64 then some (.int (i ^ j.toNat), st) else none
  | _, _, _ => none
def ixN (n : Nat) (i : Int) : Option Nat := if 0 ≤ i then (if i < n then some i.toNat else none) else if -(n : Int) ≤ i then some (i + n).toNat else none
def atI {α : Type} (xs : List α) (i : Int) : Option α := (ixN xs.length i).bind fun j => xs[j]?
def idxD (st : Store) : D → D → Option D
  | .tup ds, .int i => atI ds i
  | .loc l, .int i => (listAt st l).bind fun ds => atI ds i
  | .str z, .int i => if lim < z.length then none else (atI z.cps.toList i).map fun c => .str ⟨#[c]⟩
  | _, _ => none
/-- a slice's bound as a place among n (d where it is left out) -/
def cutIx (n d : Nat) : Option Int → Nat
  | none => d
  | some v => if v < 0 then (v + (n : Int)).toNat else min v.toNat n
def cut {α : Type} (xs : List α) (lo hi : Option Int) : List α := (xs.drop (cutIx xs.length 0 lo)).take (cutIx xs.length xs.length hi - cutIx xs.length 0 lo)
/-- the one sign of a text -/
def oneOf (z : Str) : Option Nat := match z.cps.toList with
  | [c] => some c
  | _ => none
def sliD (st : Store) : D → Option Int → Option Int → Option (D × Store)
  | .tup ds, lo, hi => some (.tup (cut ds lo hi), st)
  | .loc l, lo, hi => (listAt st l).map fun ds => alloc st (.lst true (cut ds lo hi))
  | .str z, lo, hi => if lim < z.length then none else some (.str ⟨(cut z.cps.toList lo hi).toArray⟩, st)
  | _, _, _ => none
def inD (st : Store) (x : D) : D → Option Bool
  | .tup ds => if flat 9 x && flats 9 ds then some (ds.any fun y => eqT y x) else none
  | .loc l => (listAt st l).bind fun ds => if flat 9 x && flats 9 ds then some (ds.any fun y => eqT y x) else none
  | .str z => match x with
    | .str i => (oneOf i).map fun c => decide (c ∈ z.cps.toList)
    | _ => none
  | _ => none
def eqD (st : Store) : D → D → Option Bool
  | .loc a, .loc b => (listAt st a).bind fun x => (listAt st b).bind fun y => if flats 9 x && flats 9 y then some (eqTs x y) else none
  | x, y => if flat 9 x && flat 9 y then some (eqT x y) else none
def neD (st : Store) (a b : D) : Option Bool := (eqD st a b).map (!·)
def isNon : D → Bool
  | .non => true
  | _ => false
def cmpD (st : Store) : CmpOp → D → D → Option Bool
  | .Lt, .int i, .int j => some (decide (i < j))
  | .LtE, .int i, .int j => some (decide (i ≤ j))
  | .Gt, .int i, .int j => some (decide (j < i))
  | .GtE, .int i, .int j => some (decide (j ≤ i))
  | .Eq, x, y => eqD st x y
  | .NotEq, x, y => neD st x y
  | .Is, x, .non => some (isNon x)
  | .IsNot, x, .non => some (!isNon x)
  | .In, x, y => inD st x y
  | .NotIn, x, y => (inD st x y).map (!·)
  | _, _, _ => none
def tyName (st : Store) : D → Option Ty
  | .non => some .non
  | .bl _ => some .bl
  | .int _ => some .int
  | .str _ => some .str
  | .tup _ => some .tup
  | .loc l => (listAt st l).map fun _ => .lst
/-- isinstance of a thing of the kind n against t -/
def tyIs (t n : Ty) : Bool := t == n || (t == .int && n == .bl)
def truth (st : Store) : D → Option Bool
  | .non => some false
  | .bl b => some b
  | .int i => some (i != 0)
  | .tup ds => some (!ds.isEmpty)
  | .loc l => (listAt st l).map fun ds => !ds.isEmpty
  | .str z => if lim < z.length then none else some ((z.length : Int) != 0)
def insInt (x : Int) : List Int → List Int
  | [] => [x]
  | y :: r => if x ≤ y then x :: y :: r else y :: insInt x r
def sortInt : List Int → List Int
  | [] => []
  | x :: r => insInt x (sortInt r)
def asInts : List D → Option (List Int)
  | [] => some []
  | .int i :: r => (asInts r).map (i :: ·)
  | _ => none
def asBools : List D → Option (List Bool)
  | [] => some []
  | .bl i :: r => (asBools r).map (i :: ·)
  | _ => none
def bLen (st : Store) : List D → Option (D × Store)
  | [.tup ds] => some (.int ds.length, st)
  | [.loc l] => (listAt st l).map fun ds => (.int ds.length, st)
  | [.str z] => if lim < z.length then none else some (.int z.length, st)
  | _ => none
/-- x op= y, for what is never changed in its place -/
def augD (st : Store) : Operator → D → D → Option D
  | .Add, .int i, .int j => some (.int (i + j))
  | .Sub, .int i, .int j => some (.int (i - j))
  | .Mult, .int i, .int j => if mulOk i j then some (.int (i * j)) else none
  | .Add, .str a, .str b => if lim < a.length + b.length then none else some (.str (a ++ b))
  | _, _, _ => none
def bMin (st : Store) : List D → Option (D × Store)
  | [.int i, .int j] => some (.int (if j < i then j else i), st)
  | _ => none
def bMax (st : Store) : List D → Option (D × Store)
  | [.int i, .int j] => some (.int (if j > i then j else i), st)
  | _ => none
def bTuple (st : Store) : List D → Option (D × Store)
  | [.loc l] => (listAt st l).map fun ds => (.tup ds, st)
  | [.tup ds] => some (.tup ds, st)
  | _ => none
def bList (st : Store) : List D → Option (D × Store)
  | [.loc l] => (listAt st l).map fun ds => alloc st (.lst true ds)
  | [.tup ds] => some (alloc st (.lst true ds))
  | _ => none
def bAll (st : Store) : List D → Option (D × Store)
  | [.loc l] => (listAt st l).bind fun ds => (asBools ds).map fun bs => (.bl (bs.all id), st)
  | _ => none
def bSorted (st : Store) : List D → Option (D × Store)
  | [.loc l] => (listAt st l).bind fun ds => (if 64 ≤ ds.length then none else asInts ds).map fun ns => alloc st (.lst true ((sortInt ns).map .int))
  | _ => none
def isFig (c : Nat) : Bool := decide (48 ≤ c) && decide (c ≤ 57)
def figVal (cs : List Nat) : Nat := cs.foldl (fun acc c => acc * 10 + (c - 48)) 0
def bInt (st : Store) : List D → Option (D × Store)
  | [.str z] => if !z.cps.toList.isEmpty && z.cps.toList.all isFig && decide (z.length ≤ 640) then some (.int (figVal z.cps.toList : Nat), st) else none
  | [.int i] => some (.int i, st)
  | _ => none
def bStr (st : Store) : List D → Option (D × Store)
  | [.int i] => if i.natAbs.log2 < 1920 then some (.str (Str.ofString (toString i)), st) else none
  | _ => none
def asStrs : List D → Option (List Str)
  | [] => some []
  | .str i :: r => (asStrs r).map (i :: ·)
  | _ => none
def findC (cs : List Nat) (c : Nat) : Int := match cs.findIdx? (· == c) with
  | some i => (i : Int)
  | none => -1
def mFind (st : Store) : D → List D → Option (D × Store)
  | .str z, [.str y] => (oneOf y).map fun c => (.int (findC z.cps.toList c), st)
  | _, _ => none
def mJoin (st : Store) : D → List D → Option (D × Store)
  | .str z, [.loc l] => (listAt st l).bind fun ds => (asStrs ds).bind fun ts => if (ts.map (·.length)).sum + ts.length * z.length ≤ lim then some (.str (Str.join z ts), st) else none
  | _, _ => none
def bfun (st : Store) : B → List D → Option (D × Store)
  | .len => bLen st
  | .min => bMin st
  | .max => bMax st
  | .tuple => bTuple st
  | .list => bList st
  | .all => bAll st
  | .sorted => bSorted st
  | .int => bInt st
  | .str => bStr st
def mAppend (st : Store) : D → List D → Option (D × Store)
  | .loc l, [d] => (wlistAt st l).bind fun ds => if ds.length < lim then some (.non, st.set l (.lst true (ds ++ [d]))) else none
  | _, _ => none
def mfun (st : Store) : Mt → D → List D → Option (D × Store)
  | .append => mAppend st
  | .find => mFind st
  | .join => mJoin st
/-- the receiver is of the method's kind -/
def mty (st : Store) (m : Mt) : D → Bool
  | .loc l => (match m with | .append => true | _ => false) && (listAt st l).isSome
  | .str _ => (match m with | .append => false | _ => true)
  | _ => false
def setIxD (st : Store) : D → D → D → Option Store
  | .loc l, .int i, d => (wlistAt st l).bind fun ds => (ixN ds.length i).map fun j => st.set l (.lst true (ds.set j d))
  | _, _, _ => none

/-! ### the run -/
inductive Out where
  | nx (τ : Sl)
  | rt (d : D)
  | bk (τ : Sl)
  | ct (τ : Sl)
structure R where
  ev : Sl → Store → E → Option (D × Store)
  tst : Sl → Store → E → Option (Bool × Store)
  ex : Sl → Store → List S → Option (Out × Store)
  call : Nat → List D → Store → Option (D × Store)

def evs (f : Store → E → Option (D × Store)) : List E → Store → Option (List D × Store)
  | [], st => some ([], st)
  | e :: es, st => (f st e).bind fun p => (evs f es p.2).bind fun q => some (p.1 :: q.1, q.2)
def setIs : List Nat → List D → Sl → Option Sl
  | [], [], τ => some τ
  | i :: is, d :: ds, τ => if i < τ.length then setIs is ds (τ.set i (some d)) else none
  | _, _, _ => none
def setT : T → D → Sl → Option Sl
  | .var i, d, τ => if i < τ.length then some (τ.set i (some d)) else none
  | .tup is, .tup ds, τ => setIs is ds τ
  | _, _, _ => none
/-- what is walked: at the turn i -/
inductive Src where
  | tup (ds : List D)
  | lst (l : Nat)
  | rng (lo : Int) (n : Nat)
  | zip (a b : D)
  | str (z : Str)
/-- the things of a list or a tuple -/
def rowAt (st : Store) : D → Option (List D)
  | .tup ds => some ds
  | .loc l => listAt st l
  | _ => none
def pairAt (xs ys : List D) (i : Nat) : Option D := match xs[i]?, ys[i]? with
  | some x, some y => some (.tup [x, y])
  | _, _ => none
def Src.at (st : Store) (i : Nat) : Src → Option (Option D)
  | .tup ds => some ds[i]?
  | .lst l => (listAt st l).map fun ds => ds[i]?
  | .rng lo n => some (if i < n then some (.int (lo + i)) else none)
  | .zip a b => (rowAt st a).bind fun xs => (rowAt st b).map fun ys => pairAt xs ys i
  | .str z => some ((z.cps.toList.map fun c => D.str ⟨#[c]⟩)[i]?)
def Src.size (st : Store) : Src → Nat
  | .tup ds => ds.length
  | .lst l => ((listAt st l).getD []).length
  | .rng _ n => n
  | .str z => z.cps.toList.length
  | .zip a b => min ((rowAt st a).getD []).length ((rowAt st b).getD []).length
def big (i : Int) : Bool := decide (i < -(2 ^ 62)) || decide (2 ^ 62 ≤ i)
def src (r : R) (τ : Sl) (st : Store) : E → Option (Src × Store)
  | .rng1 a => (r.ev τ st a).bind fun p => match p.1 with
    | .int n => if big n then none else some (.rng 0 n.toNat, p.2)
    | _ => none
  | .rng2 a b => (r.ev τ st a).bind fun p => (r.ev τ p.2 b).bind fun q => match p.1, q.1 with
    | .int i, .int j => if big i || big j then none else some (.rng i (j - i).toNat, q.2)
    | _, _ => none
  | .zip a b => (r.ev τ st a).bind fun p => (r.ev τ p.2 b).bind fun q => (rowAt q.2 p.1).bind fun _ => (rowAt q.2 q.1).map fun _ => (.zip p.1 q.1, q.2)
  | e => (r.ev τ st e).bind fun p => match p.1 with
    | .tup ds => some (.tup ds, p.2)
    | .loc l => (listAt p.2 l).map fun _ => (.lst l, p.2)
    | .str z => if z.cps.all (· < 128) then some (.str z, p.2) else none
    | _ => none
def loop (it : Src) (f : Sl → Store → D → Option (Out × Store)) : Nat → Nat → Sl → Store → Option (Out × Store)
  | 0, _, _, _ => none
  | k + 1, i, τ, st => (it.at st i).bind fun o => match o with
    | none => some (.nx τ, st)
    | some d => (f τ st d).bind fun p => match p.1 with
      | .nx τ' => loop it f k (i + 1) τ' p.2
      | .ct τ' => loop it f k (i + 1) τ' p.2
      | .bk τ' => some (.nx τ', p.2)
      | .rt v => some (.rt v, p.2)
/-- one turn of a comprehension: the item's value, or nothing -/
def turnC (r : R) (t : T) (test : Option E) (elt : E) (τ : Sl) (st : Store) (d : D) : Option (Option D × Sl × Store) :=
  (setT t d τ).bind fun τ' => match test with
    | none => (r.ev τ' st elt).map fun p => (some p.1, τ', p.2)
    | some c => (r.tst τ' st c).bind fun b => if b.1 then (r.ev τ' b.2 elt).map fun p => (some p.1, τ', p.2) else some (none, τ', b.2)
def loopC (it : Src) (f : Sl → Store → D → Option (Option D × Sl × Store)) : Nat → Nat → List D → Sl → Store → Option (List D × Store)
  | 0, _, _, _, _ => none
  | k + 1, i, acc, τ, st => (it.at st i).bind fun o => match o with
    | none => if lim < acc.length then none else some (acc, st)
    | some d => if lim ≤ acc.length then none else (f τ st d).bind fun p => loopC it f k (i + 1) (match p.1 with | some x => acc ++ [x] | none => acc) p.2.1 p.2.2
def inner (src : List (Option Nat)) (τ : Sl) : Sl := src.map fun o => o.bind fun i => (τ[i]?).bind id

/-- a part of a slice -/
def part (r : R) (τ : Sl) (st : Store) : Option E → Option (Option Int × Store)
  | none => some (none, st)
  | some e => (r.ev τ st e).bind fun p => match p.1 with
    | .int i => some (some i, p.2)
    | _ => none
def loopW (f : Sl → Store → Option (Bool × Store)) (g : Sl → Store → Option (Out × Store)) : Nat → Sl → Store → Option (Out × Store)
  | 0, _, _ => none
  | k + 1, τ, st => (f τ st).bind fun b => if b.1 then (g τ b.2).bind fun p => match p.1 with
      | .nx τ' => loopW f g k τ' p.2
      | .ct τ' => loopW f g k τ' p.2
      | .bk τ' => some (.nx τ', p.2)
      | .rt v => some (.rt v, p.2)
    else some (.nx τ, b.2)
def stepEv (r : R) (τ : Sl) (st : Store) : E → Option (D × Store)
  | .var i => match τ[i]? with
    | some (some d) => some (d, st)
    | _ => none
  | .lit d => some (d, st)
  | .glo _ d => some (d, st)
  | .bin op a b => (r.ev τ st a).bind fun p => (r.ev τ p.2 b).bind fun q => binop q.2 op p.1 q.1
  | .neg a => (r.ev τ st a).bind fun p => match p.1 with
    | .int i => some (.int (-i), p.2)
    | _ => none
  | .not a => (r.ev τ st a).bind fun p => match p.1 with
    | .bl b => some (.bl (!b), p.2)
    | _ => none
  | .cmp op a b => (r.ev τ st a).bind fun p => (r.ev τ p.2 b).bind fun q => (cmpD q.2 op p.1 q.1).map fun k => (.bl k, q.2)
  | .cmp2 op op' a b c => (r.ev τ st a).bind fun p => (r.ev τ p.2 b).bind fun q => (cmpD q.2 op p.1 q.1).bind fun k =>
      if k then (r.ev τ q.2 c).bind fun u => (cmpD u.2 op' q.1 u.1).map fun k' => (.bl k', u.2) else some (.bl false, q.2)
  | .and a b => (r.ev τ st a).bind fun p => match p.1 with
    | .bl true => r.ev τ p.2 b
    | .bl false => some (.bl false, p.2)
    | _ => none
  | .or a b => (r.ev τ st a).bind fun p => match p.1 with
    | .bl false => r.ev τ p.2 b
    | .bl true => some (.bl true, p.2)
    | _ => none
  | .ite c a b => (r.tst τ st c).bind fun p => if p.1 then r.ev τ p.2 a else r.ev τ p.2 b
  | .tup es => (evs (r.ev τ) es st).bind fun p => if lim < p.1.length then none else some (.tup p.1, p.2)
  | .lst es => (evs (r.ev τ) es st).bind fun p => if lim < p.1.length then none else some (alloc p.2 (.lst true p.1))
  | .idx a b => (r.ev τ st a).bind fun p => (r.ev τ p.2 b).bind fun q => (idxD q.2 p.1 q.1).map fun d => (d, q.2)
  | .sli a lo hi => (r.ev τ st a).bind fun p => (part r τ p.2 lo).bind fun l => (part r τ l.2 hi).bind fun h => sliD h.2 p.1 l.1 h.1
  | .call f es => (evs (r.ev τ) es st).bind fun p => r.call f p.1 p.2
  | .bcall f es => (evs (r.ev τ) es st).bind fun p => bfun p.2 f p.1
  | .isi a ts _ => (r.ev τ st a).bind fun p => (tyName p.2 p.1).map fun n => (.bl (ts.any fun t => tyIs t n), p.2)
  | .meth a m es => (r.ev τ st a).bind fun p => if mty p.2 m p.1 then (evs (r.ev τ) es p.2).bind fun q => mfun q.2 m p.1 q.1 else none
  | .rng1 _ => none
  | .rng2 _ _ => none
  | .zip _ _ => none
  | .comp t it test elt sr => (src r τ st it).bind fun p =>
      (loopC p.1 (turnC r t test elt) (p.1.size p.2 + 1) 0 [] (inner sr τ) p.2).map fun q => alloc q.2 (.lst true q.1)
def stepTst (r : R) (τ : Sl) (st : Store) : E → Option (Bool × Store)
  | .not a => (r.tst τ st a).map fun p => (!p.1, p.2)
  | .and a b => (r.tst τ st a).bind fun p => if p.1 then r.tst τ p.2 b else some (false, p.2)
  | .or a b => (r.tst τ st a).bind fun p => if p.1 then some (true, p.2) else r.tst τ p.2 b
  | .ite _ _ _ => none
  | .cmp op a b => (r.ev τ st a).bind fun p => (r.ev τ p.2 b).bind fun q => (cmpD q.2 op p.1 q.1).map fun k => (k, q.2)
  | .cmp2 op op' a b c => (r.ev τ st a).bind fun p => (r.ev τ p.2 b).bind fun q => (cmpD q.2 op p.1 q.1).bind fun k =>
      if k then (r.ev τ q.2 c).bind fun u => (cmpD u.2 op' q.1 u.1).map fun k' => (k', u.2) else some (false, q.2)
  | e => (r.ev τ st e).bind fun p => (truth p.2 p.1).map fun k => (k, p.2)
def stepEx (r : R) (τ : Sl) (st : Store) : S → Option (Out × Store)
  | .set t e => (r.ev τ st e).bind fun p => (setT t p.1 τ).map fun τ' => (.nx τ', p.2)
  | .setIx a i e => (r.ev τ st e).bind fun p => (r.ev τ p.2 a).bind fun q => (r.ev τ q.2 i).bind fun u => (setIxD u.2 q.1 u.1 p.1).map fun st' => (.nx τ, st')
  | .expr e => (r.ev τ st e).map fun p => (.nx τ, p.2)
  | .ret e => (r.ev τ st e).map fun p => (.rt p.1, p.2)
  | .retN => some (.rt .non, st)
  | .ite c a b => (r.tst τ st c).bind fun p => if p.1 then r.ex τ p.2 a else r.ex τ p.2 b
  | .forr t it body => (src r τ st it).bind fun p =>
      loop p.1 (fun τ st d => (setT t d τ).bind fun τ' => r.ex τ' st body) (p.1.size p.2 + 1) 0 τ p.2
  | .whil c body => loopW (fun τ st => r.tst τ st c) (fun τ st => r.ex τ st body) lim τ st
  | .aug i op e => match τ[i]? with
    | some (some x) => (r.ev τ st e).bind fun p => (augD p.2 op x p.1).map fun z => (.nx (τ.set i (some z)), p.2)
    | _ => none
  | .brk => some (.bk τ, st)
  | .cnt => some (.ct τ, st)
  | .pass => some (.nx τ, st)
def exs (f : Sl → Store → S → Option (Out × Store)) : List S → Sl → Store → Option (Out × Store)
  | [], τ, st => some (.nx τ, st)
  | s :: ss, τ, st => (f τ st s).bind fun p => match p.1 with
    | .nx τ' => exs f ss τ' p.2
    | o => some (o, p.2)
def stepCall (fns : List Fn) (r : R) (f : Nat) (ds : List D) (st : Store) : Option (D × Store) :=
  match fns[f]? with
  | some F => if ds.length = F.np then (r.ex (ds.map some ++ List.replicate (F.nl - ds.length) none) st F.body).bind fun p => match p.1 with
      | .rt d => some (d, p.2)
      | .nx _ => some (.non, p.2)
      | _ => none
    else none
  | none => none
def bot : R := ⟨fun _ _ _ => none, fun _ _ _ => none, fun _ _ _ => none, fun _ _ _ => none⟩
def step (fns : List Fn) (r : R) : R := ⟨stepEv r, stepTst r, fun τ st ss => exs (stepEx r) ss τ st, stepCall fns r⟩
def run (fns : List Fn) : Nat → R
  | 0 => bot
  | n + 1 => step fns (run fns n)
end M
end
section
set_option linter.all false
namespace M
open PySem (Str)
section
variable {fns : List Fn} {n : Nat} {τ : Sl} {st : Store}
theorem ev_s (e : E) : (run fns (n + 1)).ev τ st e = stepEv (run fns n) τ st e := rfl
theorem tst_s (e : E) : (run fns (n + 1)).tst τ st e = stepTst (run fns n) τ st e := rfl
theorem ex_s (ss : List S) : (run fns (n + 1)).ex τ st ss = exs (stepEx (run fns n)) ss τ st := rfl
theorem call_s (f : Nat) (ds : List D) : (run fns (n + 1)).call f ds st = stepCall fns (run fns n) f ds st := rfl
end
theorem call_of {fns : List Fn} {n f : Nat} {F : Fn} {ds : List D} {τ : Sl} {st st' : Store} {d : D} (hf : fns[f]? = some F) (hl : ds.length = F.np) (hτ : ds.map some ++ List.replicate (F.nl - ds.length) none = τ)
    (h : exs (stepEx (run fns n)) F.body τ st = some (.rt d, st')) : (run fns (n + 2)).call f ds st = some (d, st') := by
  rw [call_s]
  unfold stepCall
  rw [hf]
  dsimp only
  rw [if_pos hl, hτ, ex_s, h]
  rfl
theorem exs_split : ∀ (a : List S) {b : List S} {f : Sl → Store → S → Option (Out × Store)} {τ τ' : Sl} {s s' : Store}, exs f a τ s = some (.nx τ', s') → exs f (a ++ b) τ s = exs f b τ' s'
  | [], b, f, τ, τ', s, s', h => by cases h; rfl
  | x :: a, b, f, τ, τ', s, s', h => by
    simp only [exs, List.cons_append] at h ⊢
    cases q : f τ s x with
    | none => rw [q] at h; cases h
    | some p =>
      rw [q] at h
      simp only [Option.bind_some] at h ⊢
      cases hp : p.1 with
      | nx τ2 => rw [hp] at h; simp only at h ⊢; exact exs_split a h
      | rt d => rw [hp] at h; cases h
      | bk d => rw [hp] at h; cases h
      | ct d => rw [hp] at h; cases h
theorem exs_cons {x : S} {b : List S} {f : Sl → Store → S → Option (Out × Store)} {τ τ' : Sl} {s s' : Store} (h : f τ s x = some (.nx τ', s')) : exs f (x :: b) τ s = exs f b τ' s' := by
  simp only [exs, h, Option.bind_some]
theorem exs_ret {x : S} {b : List S} {f : Sl → Store → S → Option (Out × Store)} {τ : Sl} {s s' : Store} {d : D} (h : f τ s x = some (.rt d, s')) : exs f (x :: b) τ s = some (.rt d, s') := by
  simp only [exs, h, Option.bind_some]
theorem eqT_bb (a b : Bool) : eqT (.bl a) (.bl b) = (a == b) := by rw [eqT]
theorem eqT_ii (a b : Int) : eqT (.int a) (.int b) = (a == b) := by rw [eqT]
theorem eqT_ss (a b : Str) : eqT (.str a) (.str b) = (a == b) := by rw [eqT]
theorem eqT_nn : eqT .non .non = true := by rw [eqT]
theorem flat_b (n : Nat) (a : Bool) : flat n (.bl a) = true := by cases n <;> rfl
theorem flat_i (n : Nat) (a : Int) : flat n (.int a) = true := by cases n <;> rfl
theorem flat_s (n : Nat) (a : Str) : flat n (.str a) = true := by cases n <;> rfl
theorem flat_n (n : Nat) : flat n .non = true := by cases n <;> rfl
theorem eqD_bb (st : Store) (a b : Bool) : eqD st (.bl a) (.bl b) = some (a == b) := by simp [eqD, flat_b, eqT_bb]
theorem eqD_ii (st : Store) (a b : Int) : eqD st (.int a) (.int b) = some (a == b) := by simp [eqD, flat_i, eqT_ii]
theorem eqD_ss (st : Store) (a b : Str) : eqD st (.str a) (.str b) = some (a == b) := by simp [eqD, flat_s, eqT_ss]
theorem eqD_nn (st : Store) : eqD st .non .non = some true := by simp [eqD, flat_n, eqT_nn]
/-- a loop over a range, by what holds between its turns -/
theorem loop_rng' {f : Sl → Store → D → Option (Out × Store)} {lo : Int} {n : Nat} (P : Nat → Sl → Store → Prop) (hs : ∀ i τ st, i < n → P i τ st → ∃ τ' st', f τ st (.int (lo + i)) = some (.nx τ', st') ∧ P (i + 1) τ' st') :
    ∀ (k i : Nat) (τ : Sl) (st : Store), i + k = n → P i τ st → ∃ τ' st', loop (.rng lo n) f (k + 1) i τ st = some (.nx τ', st') ∧ P n τ' st'
  | 0, i, τ, st, h, p => by
    have : i = n := by omega
    subst this
    exact ⟨τ, st, by simp [loop, Src.at], p⟩
  | k + 1, i, τ, st, h, p => by
    have hi : i < n := by omega
    obtain ⟨τ', st', e, q⟩ := hs i τ st hi p
    obtain ⟨τ2, st2, e2, q2⟩ := loop_rng' P hs k (i + 1) τ' st' (by omega) q
    refine ⟨τ2, st2, ?_, q2⟩
    rw [loop]
    simp only [Src.at, hi, if_true, Option.bind_some, e]
    exact e2
theorem loop_rng {f : Sl → Store → D → Option (Out × Store)} {lo : Int} {n : Nat} {τ : Sl} {st : Store} (P : Nat → Sl → Store → Prop) (h0 : P 0 τ st) (hs : ∀ i τ st, i < n → P i τ st → ∃ τ' st', f τ st (.int (lo + i)) = some (.nx τ', st') ∧ P (i + 1) τ' st') :
    ∃ τ' st', loop (.rng lo n) f (n + 1) 0 τ st = some (.nx τ', st') ∧ P n τ' st' := loop_rng' P hs n 0 τ st (by omega) h0
/-- a comprehension over a range -/
theorem loopC_rng' {f : Sl → Store → D → Option (Option D × Sl × Store)} {lo : Int} {n : Nat} (P : Nat → List D → Sl → Store → Prop) (hl : ∀ i acc τ st, i ≤ n → P i acc τ st → acc.length < lim)
    (hs : ∀ i acc τ st, i < n → P i acc τ st → ∃ o τ' st', f τ st (.int (lo + i)) = some (o, τ', st') ∧ P (i + 1) (match o with | some x => acc ++ [x] | none => acc) τ' st') :
    ∀ (k i : Nat) (acc : List D) (τ : Sl) (st : Store), i + k = n → P i acc τ st → ∃ acc' τ' st', loopC (.rng lo n) f (k + 1) i acc τ st = some (acc', st') ∧ P n acc' τ' st'
  | 0, i, acc, τ, st, h, p => by
    have : i = n := by omega
    subst this
    have := hl i acc τ st (Nat.le_refl _) p
    exact ⟨acc, τ, st, by simp [loopC, Src.at]; omega, p⟩
  | k + 1, i, acc, τ, st, h, p => by
    have hi : i < n := by omega
    have hll := hl i acc τ st (by omega) p
    obtain ⟨o, τ', st', e, q⟩ := hs i acc τ st hi p
    obtain ⟨acc2, τ2, st2, e2, q2⟩ := loopC_rng' P hl hs k (i + 1) _ τ' st' (by omega) q
    refine ⟨acc2, τ2, st2, ?_, q2⟩
    rw [loopC]
    simp only [Src.at, hi, if_true, Option.bind_some, e]
    rw [if_neg (by omega)]
    exact e2
theorem loopC_rng {f : Sl → Store → D → Option (Option D × Sl × Store)} {lo : Int} {n : Nat} {τ : Sl} {st : Store} (P : Nat → List D → Sl → Store → Prop) (h0 : P 0 [] τ st) (hl : ∀ i acc τ st, i ≤ n → P i acc τ st → acc.length < lim)
    (hs : ∀ i acc τ st, i < n → P i acc τ st → ∃ o τ' st', f τ st (.int (lo + i)) = some (o, τ', st') ∧ P (i + 1) (match o with | some x => acc ++ [x] | none => acc) τ' st') :
    ∃ acc' τ' st', loopC (.rng lo n) f (n + 1) 0 [] τ st = some (acc', st') ∧ P n acc' τ' st' := loopC_rng' P hl hs n 0 [] τ st (by omega) h0
theorem listAt_new (st : Store) (w : Bool) (ds : List D) : listAt (st ++ [.lst w ds]) st.length = some ds := by simp [listAt]
theorem wlistAt_new (st : Store) (ds : List D) : wlistAt (st ++ [.lst true ds]) st.length = some ds := by simp [wlistAt]
theorem listAt_old {st : Store} {l : Nat} {ds : List D} (h : listAt st l = some ds) (r : Store) : listAt (st ++ r) l = some ds := by
  unfold listAt at h ⊢
  have hl : l < st.length := by
    cases q : st[l]? with
    | none => rw [q] at h; cases h
    | some c => exact (List.getElem?_eq_some_iff.mp q).1
  rw [List.getElem?_append_left hl]
  exact h
theorem set_new (st : Store) (c c' : Cell) : (st ++ [c]).set st.length c' = st ++ [c'] := by simp
end M
end
section
set_option linter.all false
set_option maxRecDepth 10000
set_option maxHeartbeats 2000000
namespace M
/-! ### the draw -/
def cDraw : List S := [
  .set (.var 4) (.lit (.int 0)),
  .set (.var 5) (.lit (.int 1)),
  .ite (.cmp .Gt (.bcall .len [(.var 0)]) (.lit (.int 0))) [.set (.var 4) (.idx (.var 0) (.bin .Mod (.var 1) (.bcall .len [(.var 0)]))), .set (.var 5) (.bin .FloorDiv (.var 1) (.bcall .len [(.var 0)]))] [],
  .set (.var 6) (.var 4),
  .forr (.var 7) (.rng1 (.var 2)) [.set (.var 6) (.bin .FloorDiv (.var 6) (.bin .Pow (.lit (.int 10)) (.lit (.int 10))))],
  .ite (.and (.cmp .Eq (.var 5) (.lit (.int 0))) (.and (.cmp .GtE (.var 4) (.bin .Pow (.lit (.int 10)) (.lit (.int 18)))) (.cmp .Gt (.var 6) (.lit (.int 0))))) [.ret (.bin .Mod (.bin .Mod (.var 6) (.bin .Pow (.lit (.int 10)) (.lit (.int 10)))) (.var 3))] [],
  .set (.var 8) (.bin .Mod (.bin .Add (.bin .Add (.bin .Add (.bin .Mult (.var 4) (.lit (.int 7919))) (.bin .Mult (.var 1) (.lit (.int 104729)))) (.bin .Mult (.var 2) (.lit (.int 1299709)))) (.lit (.int 31))) (.lit (.int 1000000007))),
  .set (.var 9) (.bin .Mod (.bin .Add (.bin .Mult (.var 8) (.lit (.int 48271))) (.bin .FloorDiv (.var 4) (.lit (.int 1009)))) (.lit (.int 998244353))),
  .set (.var 9) (.bin .Mod (.bin .Add (.bin .Mult (.var 9) (.bin .Add (.bin .Mod (.var 8) (.lit (.int 9973))) (.lit (.int 1)))) (.var 2)) (.lit (.int 1000000009))),
  .ret (.bin .Mod (.bin .Mod (.bin .Add (.bin .Add (.bin .Mult (.var 8) (.lit (.int 69621))) (.bin .Mult (.var 9) (.lit (.int 40692)))) (.bin .FloorDiv (.var 9) (.lit (.int 1013)))) (.lit (.int 2147483647))) (.var 3))]
def cDrawIf : S := .ite (.and (.cmp .Eq (.var 5) (.lit (.int 0))) (.and (.cmp .GtE (.var 4) (.bin .Pow (.lit (.int 10)) (.lit (.int 18)))) (.cmp .Gt (.var 6) (.lit (.int 0))))) [.ret (.bin .Mod (.bin .Mod (.var 6) (.bin .Pow (.lit (.int 10)) (.lit (.int 10)))) (.var 3))] []
def fDraw : Fn := ⟨4, 10, cDraw⟩
theorem mulOk_r {a b : Int} (h1 : -(2 ^ 64) < b) (h2 : b < 2 ^ 64) : mulOk a b = true := by unfold mulOk; simp; omega
theorem mulOk_l {a b : Int} (h1 : -(2 ^ 64) < a) (h2 : a < 2 ^ 64) : mulOk a b = true := by unfold mulOk; simp; omega
theorem draw_ok' {fns : List Fn} {f : Nat} (hf : fns[f]? = some fDraw) (n : Nat) (st : Store) (l : Nat) (ns : List Int) (k j many : Int) (hl : listAt st l = some (ns.map D.int)) (hn : ns.length ≤ 63) (hk : 0 ≤ k) (hk2 : k < 1000) (hj : 0 ≤ j) (hj2 : j < 1000) (hm : 0 < many) :
    ∃ r, 0 ≤ r ∧ r < many ∧ (run fns (n + 20)).call f [.loc l, .int k, .int j, .int many] st = some (.int r, st) := by
  have first : ∃ cell turn : Int, exs (stepEx (run fns (n + 18))) (cDraw.take 4) [some (.loc l), some (.int k), some (.int j), some (.int many), none, none, none, none, none, none] st =
      some (.nx [some (.loc l), some (.int k), some (.int j), some (.int many), some (.int cell), some (.int turn), some (.int cell), none, none, none], st) := by
    by_cases he : ns = []
    · subst he
      refine ⟨0, 1, ?_⟩
      simp [cDraw, exs, stepEx, ev_s, stepEv, tst_s, stepTst, evs, bfun, bLen, hl, cmpD, setT, truth, ex_s]
    · have hp : 0 < ns.length := List.length_pos_iff.mpr he
      have h1 : 0 ≤ k % (ns.length : Int) := Int.emod_nonneg _ (by omega)
      have h2 : k % (ns.length : Int) < ns.length := Int.emod_lt_of_pos _ (by omega)
      refine ⟨ns[(k % (ns.length : Int)).toNat]'(by omega), k / ns.length, ?_⟩
      have h5 : (k % (ns.length : Int)).toNat < ns.length := by omega
      simp [cDraw, exs, stepEx, ev_s, stepEv, tst_s, stepTst, evs, bfun, bLen, hl, cmpD, setT, truth, ex_s, hp, binop, idxD, atI, ixN, h1, h2, h5]
      rw [if_pos (by omega)]
      simp [exs]
  obtain ⟨cell, turn, e1⟩ := first
  have second : ∃ (rest : Int) (o : Option D), stepEx (run fns (n + 18)) [some (.loc l), some (.int k), some (.int j), some (.int many), some (.int cell), some (.int turn), some (.int cell), none, none, none] st
      (.forr (.var 7) (.rng1 (.var 2)) [.set (.var 6) (.bin .FloorDiv (.var 6) (.bin .Pow (.lit (.int 10)) (.lit (.int 10))))]) =
      some (.nx [some (.loc l), some (.int k), some (.int j), some (.int many), some (.int cell), some (.int turn), some (.int rest), o, none, none], st) := by
    have hb : big j = false := by unfold big; simp; omega
    obtain ⟨τ', st', e, r, o, rfl, rfl⟩ := loop_rng (lo := 0) (n := j.toNat) (τ := [some (.loc l), some (.int k), some (.int j), some (.int many), some (.int cell), some (.int turn), some (.int cell), none, none, none]) (st := st)
      (f := fun τ st d => (setT (.var 7) d τ).bind fun τ' => (run fns (n + 18)).ex τ' st [.set (.var 6) (.bin .FloorDiv (.var 6) (.bin .Pow (.lit (.int 10)) (.lit (.int 10))))])
      (fun i τ s => ∃ (r : Int) (o : Option D), τ = [some (.loc l), some (.int k), some (.int j), some (.int many), some (.int cell), some (.int turn), some (.int r), o, none, none] ∧ s = st) ⟨cell, none, rfl, rfl⟩ (by
        rintro i τ s hi ⟨r, o, rfl, rfl⟩
        refine ⟨[some (.loc l), some (.int k), some (.int j), some (.int many), some (.int cell), some (.int turn), some (.int (r / 10000000000)), some (.int (0 + i)), none, none], s, ?_, r / 10000000000, _, rfl, rfl⟩
        simp [setT, ex_s, exs, stepEx, ev_s, stepEv, binop])
    refine ⟨r, o, ?_⟩
    simp only [stepEx, src, ev_s, stepEv, Src.size]
    simp only [List.getElem?_cons_succ, List.getElem?_cons_zero, Option.bind_some, hb, Bool.false_eq_true, if_false]
    exact e
  obtain ⟨rest, o, e2⟩ := second
  have body : ∃ r, 0 ≤ r ∧ r < many ∧ exs (stepEx (run fns (n + 18))) cDraw [some (.loc l), some (.int k), some (.int j), some (.int many), none, none, none, none, none, none] st = some (.rt (.int r), st) := by
    have hb : cDraw = cDraw.take 4 ++ cDraw.drop 4 := by simp
    rw [hb, exs_split _ e1]
    have e3 : cDraw.drop 4 = .forr (.var 7) (.rng1 (.var 2)) [.set (.var 6) (.bin .FloorDiv (.var 6) (.bin .Pow (.lit (.int 10)) (.lit (.int 10))))] :: cDraw.drop 5 := rfl
    rw [e3, exs_cons e2]
    by_cases hc : turn = 0 ∧ 1000000000000000000 ≤ cell ∧ 0 < rest
    · obtain ⟨c1, c2, c3⟩ := hc
      refine ⟨rest % 10 ^ 10 % many, Int.emod_nonneg _ (by omega), Int.emod_lt_of_pos _ hm, ?_⟩
      subst c1
      simp [cDraw, exs, stepEx, ev_s, stepEv, tst_s, stepTst, cmpD, eqD_ii, truth, binop, ex_s, c2, c3, hm]
    · have e4 : stepEx (run fns (n + 18)) [some (.loc l), some (.int k), some (.int j), some (.int many), some (.int cell), some (.int turn), some (.int rest), o, none, none] st cDrawIf = some (.nx [some (.loc l), some (.int k), some (.int j), some (.int many), some (.int cell), some (.int turn), some (.int rest), o, none, none], st) := by
        by_cases c1 : turn = 0
        · by_cases c2 : 1000000000000000000 ≤ cell
          · have c3 : ¬ 0 < rest := fun z => hc ⟨c1, c2, z⟩
            subst c1
            simp [cDrawIf, exs, stepEx, ev_s, stepEv, tst_s, stepTst, cmpD, eqD_ii, truth, binop, ex_s, c2, c3, hm]
          · subst c1
            simp [cDrawIf, exs, stepEx, ev_s, stepEv, tst_s, stepTst, cmpD, eqD_ii, truth, binop, ex_s, c2, hm]
        · simp [cDrawIf, exs, stepEx, ev_s, stepEv, tst_s, stepTst, cmpD, eqD_ii, truth, binop, ex_s, c1, hm]
      have e5 : cDraw.drop 5 = cDrawIf :: cDraw.drop 6 := rfl
      rw [e5, exs_cons e4]
      have m1 : ∀ x : Int, mulOk x 7919 = true := fun x => mulOk_r (by decide) (by decide)
      have m2 : ∀ x : Int, mulOk x 104729 = true := fun x => mulOk_r (by decide) (by decide)
      have m3 : ∀ x : Int, mulOk x 1299709 = true := fun x => mulOk_r (by decide) (by decide)
      have m4 : ∀ x : Int, mulOk x 48271 = true := fun x => mulOk_r (by decide) (by decide)
      have m5 : ∀ x y : Int, mulOk x (y % 9973 + 1) = true := fun x y => mulOk_r (by omega) (by omega)
      have m6 : ∀ x : Int, mulOk x 69621 = true := fun x => mulOk_r (by decide) (by decide)
      have m7 : ∀ x : Int, mulOk x 40692 = true := fun x => mulOk_r (by decide) (by decide)
      refine ⟨(fun one => (fun two => (fun two' => (one * 69621 + two' * 40692 + two' / 1013) % 2147483647 % many) ((two * (one % 9973 + 1) + j) % 1000000009)) ((one * 48271 + cell / 1009) % 998244353)) ((cell * 7919 + k * 104729 + j * 1299709 + 31) % 1000000007), Int.emod_nonneg _ (by omega), Int.emod_lt_of_pos _ hm, ?_⟩
      simp [cDraw, exs, stepEx, ev_s, stepEv, setT, binop, hm, m1, m2, m3, m4, m5, m6, m7]
  obtain ⟨r, r0, r1, e⟩ := body
  exact ⟨r, r0, r1, call_of hf rfl rfl e⟩
theorem draw_ok {fns : List Fn} {f : Nat} (hf : fns[f]? = some fDraw) (N : Nat) (hN : 20 ≤ N) (st : Store) (l : Nat) (ns : List Int) (k j many : Int) (hl : listAt st l = some (ns.map D.int)) (hn : ns.length ≤ 63) (hk : 0 ≤ k) (hk2 : k < 1000) (hj : 0 ≤ j) (hj2 : j < 1000) (hm : 0 < many) :
    ∃ r, 0 ≤ r ∧ r < many ∧ (run fns N).call f [.loc l, .int k, .int j, .int many] st = some (.int r, st) := by
  have := draw_ok' hf (N - 20) st l ns k j many hl hn hk hk2 hj hj2 hm
  rwa [show N - 20 + 20 = N by omega] at this
end M
end
section
set_option linter.all false
set_option maxRecDepth 10000
set_option maxHeartbeats 2000000
namespace M
/-! ### the same -/
def cSame (s : Nat) : List S := [
  .ite (.isi (.var 1) [.tup, .lst] true) [.ite (.or (.not (.isi (.var 0) [.tup, .lst] true)) (.cmp .NotEq (.bcall .len [(.var 0)]) (.bcall .len [(.var 1)]))) [.ret (.lit (.bl false))] [], .set (.var 2) (.bcall .all [(.comp (.var 0) (.rng1 (.bcall .len [(.var 1)])) none (.call s [(.idx (.var 1) (.var 0)), (.idx (.var 2) (.var 0))]) [none, some 0, some 1])]), .ret (.and (.var 2) (.cmp .Eq (.isi (.var 0) [.tup] false) (.isi (.var 1) [.tup] false)))] [],
  .set (.var 2) (.cmp .Eq (.isi (.var 0) [.int] false) (.isi (.var 1) [.int] false)),
  .set (.var 2) (.and (.var 2) (.cmp .Eq (.isi (.var 0) [.bl] false) (.isi (.var 1) [.bl] false))),
  .ret (.and (.var 2) (.and (.cmp .Eq (.isi (.var 0) [.str] false) (.isi (.var 1) [.str] false)) (.cmp .Eq (.var 0) (.var 1))))]
def fSame (s : Nat) : Fn := ⟨2, 3, cSame s⟩
/-- a sequence and its items -/
inductive Items (st : Store) : D → List D → Ty → Prop
  | tup (ds : List D) : Items st (.tup ds) ds .tup
  | lst {l : Nat} {ds : List D} (h : listAt st l = some ds) : Items st (.loc l) ds .lst
theorem Items.more {st : Store} {a : D} {ds : List D} {t : Ty} (h : Items st a ds t) (r : Store) : Items (st ++ r) a ds t := by
  cases h with
  | tup => exact .tup _
  | lst h => exact .lst (listAt_old h r)
theorem Items.len {st : Store} {a : D} {ds : List D} {t : Ty} (h : Items st a ds t) : bLen st [a] = some (.int ds.length, st) := by
  cases h with
  | tup => rfl
  | lst h => simp [bLen, h]
theorem Items.ty {st : Store} {a : D} {ds : List D} {t : Ty} (h : Items st a ds t) : tyName st a = some t := by
  cases h with
  | tup => rfl
  | lst h => simp [tyName, h]
theorem Items.seq {st : Store} {a : D} {ds : List D} {t : Ty} (h : Items st a ds t) : (tyIs .tup t || tyIs .lst t) = true := by
  cases h <;> decide
theorem Items.idx {st : Store} {a : D} {ds : List D} {t : Ty} (h : Items st a ds t) {i : Nat} {d : D} (e : ds[i]? = some d) : idxD st a (.int (0 + (i : Int))) = some d := by
  have hi : i < ds.length := (List.getElem?_eq_some_iff.mp e).1
  have h2 : atI ds (0 + (i : Int)) = some d := by
    unfold atI ixN
    rw [if_pos (by omega), if_pos (by omega)]
    simp [e]
  cases h with
  | tup => exact h2
  | lst h => simp only [idxD, h, Option.bind_some]; exact h2
theorem asBools_rep : ∀ n : Nat, asBools (List.replicate n (.bl true)) = some (List.replicate n true)
  | 0 => rfl
  | n + 1 => by rw [List.replicate_succ, asBools, asBools_rep n]; rfl
section
variable {fns : List Fn} {s : Nat}
theorem same_scal (hf : fns[s]? = some (fSame s)) (n : Nat) (st : Store) (d : D) (h : (∃ i, d = .int i) ∨ (∃ i, d = .bl i) ∨ (∃ i, d = .str i) ∨ d = .non) : (run fns (n + 20)).call s [d, d] st = some (.bl true, st) := by
  refine call_of hf rfl rfl ?_
  rcases h with ⟨i, rfl⟩ | ⟨i, rfl⟩ | ⟨i, rfl⟩ | rfl
  · simp [fSame, cSame, exs, stepEx, ev_s, stepEv, tst_s, stepTst, tyName, tyIs, truth, cmpD, eqD_bb, eqD_ii, eqD_ss, eqD_nn, setT, ex_s]
  · simp [fSame, cSame, exs, stepEx, ev_s, stepEv, tst_s, stepTst, tyName, tyIs, truth, cmpD, eqD_bb, eqD_ii, eqD_ss, eqD_nn, setT, ex_s]
  · simp [fSame, cSame, exs, stepEx, ev_s, stepEv, tst_s, stepTst, tyName, tyIs, truth, cmpD, eqD_bb, eqD_ii, eqD_ss, eqD_nn, setT, ex_s]
  · simp [fSame, cSame, exs, stepEx, ev_s, stepEv, tst_s, stepTst, tyName, tyIs, truth, cmpD, eqD_bb, eqD_ii, eqD_ss, eqD_nn, setT, ex_s]
/-- two sequences whose items are the same -/
theorem same_seq (hf : fns[s]? = some (fSame s)) (n : Nat) (st : Store) (a b : D) (ds es : List D) (t : Ty) (ha : Items st a ds t) (hb : Items st b es t) (hlen : ds.length = es.length) (hl : ds.length < 1000000)
    (hi : ∀ (i : Nat) (d e : D) (r : Store), ds[i]? = some d → es[i]? = some e → ∃ r', (run fns (n + 14)).call s [d, e] (st ++ r) = some (.bl true, st ++ r')) : ∃ r, (run fns (n + 20)).call s [a, b] st = some (.bl true, st ++ r) := by
  have hseq := ha.seq
  have hbig : big (es.length : Int) = false := by unfold big; simp; omega
  -- the comprehension
  obtain ⟨acc, τ', st', e, o, r, rfl, rfl, rfl⟩ := loopC_rng (lo := 0) (n := es.length) (τ := [none, some a, some b]) (st := st)
    (f := turnC (run fns (n + 15)) (.var 0) none (.call s [(.idx (.var 1) (.var 0)), (.idx (.var 2) (.var 0))]))
    (fun i acc τ s' => ∃ (o : Option D) (r : Store), acc = List.replicate i (.bl true) ∧ τ = [o, some a, some b] ∧ s' = st ++ r) ⟨none, [], rfl, rfl, (List.append_nil _).symm⟩
    (by rintro i acc τ s' hi ⟨o, r, rfl, _⟩; simp [lim]; omega) (by
      rintro i acc τ s' hlt ⟨o, r, rfl, rfl, rfl⟩
      have e1 : ds[i]? = some (ds[i]'(by omega)) := by simp
      have e2 : es[i]? = some (es[i]'(by omega)) := by simp
      obtain ⟨r', e3⟩ := hi i _ _ r e1 e2
      have e4 := (ha.more r).idx e1
      have e5 := (hb.more r).idx e2
      refine ⟨some (.bl true), [some (.int (0 + i)), some a, some b], st ++ r', ?_, _, r', ?_, rfl, rfl⟩
      · simp only [turnC, setT, List.length_cons, List.length_nil, List.set_cons_zero, ev_s, stepEv, evs]
        simp only [Nat.zero_lt_succ, if_true, Option.bind_some, List.getElem?_cons_succ, List.getElem?_cons_zero, e4, e5, Option.map_some]
        rw [e3]
        rfl
      · simp only
        rw [← List.replicate_succ'])
  refine ⟨r ++ [.lst true (List.replicate es.length (.bl true))], call_of hf rfl rfl ?_⟩
  have ety := ha.ty
  have ety' := hb.ty
  have hcomp : stepEv (run fns (n + 16)) [some a, some b, none] st (.bcall .all [(.comp (.var 0) (.rng1 (.bcall .len [(.var 1)])) none (.call s [(.idx (.var 1) (.var 0)), (.idx (.var 2) (.var 0))]) [none, some 0, some 1])]) =
      some (.bl true, st ++ (r ++ [.lst true (List.replicate es.length (.bl true))])) := by
    have hsrc : src (run fns (n + 15)) [some a, some b, none] st (.rng1 (.bcall .len [(.var 1)])) = some (.rng 0 es.length, st) := by
      simp only [src, ev_s, stepEv, evs]
      simp only [List.getElem?_cons_succ, List.getElem?_cons_zero, Option.bind_some, bfun, hb.len, hbig, Bool.false_eq_true, if_false, Int.toNat_natCast]
    have hin : inner [none, some 0, some 1] [some a, some b, none] = [none, some a, some b] := rfl
    have hc : stepEv (run fns (n + 15)) [some a, some b, none] st (.comp (.var 0) (.rng1 (.bcall .len [(.var 1)])) none (.call s [(.idx (.var 1) (.var 0)), (.idx (.var 2) (.var 0))]) [none, some 0, some 1]) = some (.loc (st ++ r).length, (st ++ r) ++ [.lst true (List.replicate es.length (.bl true))]) := by
      rw [stepEv]
      simp only [hsrc, hin, Option.bind_some, Src.size, e, Option.map_some, alloc]
    rw [stepEv]
    simp only [evs, ev_s, hc, Option.bind_some, bfun, bAll, listAt_new, asBools_rep, Option.map_some]
    rw [List.append_assoc]
    simp
  have h1 : stepTst (run fns (n + 17)) [some a, some b, none] st (.isi (.var 1) [.tup, .lst] true) = some (true, st) := by
    simp only [stepTst, ev_s, stepEv, List.getElem?_cons_succ, List.getElem?_cons_zero, Option.bind_some, ety', Option.map_some, List.any_cons, List.any_nil, Bool.or_false, hseq, truth]
  have h2 : stepTst (run fns (n + 16)) [some a, some b, none] st (.or (.not (.isi (.var 0) [.tup, .lst] true)) (.cmp .NotEq (.bcall .len [(.var 0)]) (.bcall .len [(.var 1)]))) = some (false, st) := by
    simp [stepTst, tst_s, ev_s, stepEv, evs, ety, hseq, truth, bfun, ha.len, hb.len, cmpD, neD, eqD_ii, hlen]
  have h3 : stepEv (run fns (n + 16)) [some a, some b, some (.bl true)] (st ++ (r ++ [.lst true (List.replicate es.length (.bl true))])) (.and (.var 2) (.cmp .Eq (.isi (.var 0) [.tup] false) (.isi (.var 1) [.tup] false))) = some (.bl true, st ++ (r ++ [.lst true (List.replicate es.length (.bl true))])) := by
    simp [ev_s, stepEv, (ha.more (r ++ [.lst true (List.replicate es.length (.bl true))])).ty, (hb.more (r ++ [.lst true (List.replicate es.length (.bl true))])).ty, cmpD, eqD_bb]
  show exs (stepEx (run fns (n + 18))) (cSame s) [some a, some b, none] st = _
  refine exs_ret ?_
  simp only [stepEx, tst_s, h1, Option.bind_some, if_true, ex_s]
  rw [exs_cons (x := .ite (.or (.not (.isi (.var 0) [.tup, .lst] true)) (.cmp .NotEq (.bcall .len [(.var 0)]) (.bcall .len [(.var 1)]))) [.ret (.lit (.bl false))] []) (τ' := [some a, some b, none]) (s' := st) (by
    simp only [stepEx, tst_s, h2, Option.bind_some, Bool.false_eq_true, if_false, ex_s, exs])]
  rw [exs_cons (τ' := [some a, some b, some (.bl true)]) (s' := st ++ (r ++ [.lst true (List.replicate es.length (.bl true))])) (by
    simp only [stepEx, ev_s, hcomp, Option.bind_some, setT, List.length_cons, List.length_nil]
    rfl)]
  refine exs_ret ?_
  simp only [stepEx, ev_s, h3, Option.map_some]

mutual
def okD : Nat → D → Bool
  | _, .loc _ => false
  | 0, .tup _ => false
  | m + 1, .tup ds => decide (ds.length < 1000000) && okDs m ds
  | _, _ => true
def okDs : Nat → List D → Bool
  | _, [] => true
  | m, d :: ds => okD m d && okDs m ds
end
theorem okDs_get : ∀ {m : Nat} {l : List D} {k : Nat} {d : D}, okDs m l = true → l[k]? = some d → okD m d = true
  | _, [], _, _, _, e => by simp at e
  | n, c :: l, 0, d, f, e => by
    simp only [okDs, Bool.and_eq_true] at f
    have e' : c = d := by simpa using e
    rw [← e']; exact f.1
  | n, c :: l, k + 1, d, f, e => by
    simp only [okDs, Bool.and_eq_true] at f
    exact okDs_get (k := k) f.2 (by simpa using e)
theorem same_flat' (hf : fns[s]? = some (fSame s)) : ∀ (m n : Nat) (st : Store) (d : D), okD m d = true → ∃ r, (run fns (n + 20 + 6 * m)).call s [d, d] st = some (.bl true, st ++ r)
  | m, n, st, .loc _, h => by simp [okD] at h
  | m, n, st, .non, h => ⟨[], by rw [List.append_nil, show n + 20 + 6 * m = (n + 6 * m) + 20 by omega]; exact same_scal hf _ st _ (.inr (.inr (.inr rfl)))⟩
  | m, n, st, .bl b, h => ⟨[], by rw [List.append_nil, show n + 20 + 6 * m = (n + 6 * m) + 20 by omega]; exact same_scal hf _ st _ (.inr (.inl ⟨b, rfl⟩))⟩
  | m, n, st, .int b, h => ⟨[], by rw [List.append_nil, show n + 20 + 6 * m = (n + 6 * m) + 20 by omega]; exact same_scal hf _ st _ (.inl ⟨b, rfl⟩)⟩
  | m, n, st, .str b, h => ⟨[], by rw [List.append_nil, show n + 20 + 6 * m = (n + 6 * m) + 20 by omega]; exact same_scal hf _ st _ (.inr (.inr (.inl ⟨b, rfl⟩)))⟩
  | 0, n, st, .tup ds, h => by simp [okD] at h
  | m + 1, n, st, .tup ds, h => by
    simp only [okD, Bool.and_eq_true, decide_eq_true_eq] at h
    rw [show n + 20 + 6 * (m + 1) = (n + 6 + 6 * m) + 20 by omega]
    refine same_seq hf _ st _ _ ds ds .tup (.tup ds) (.tup ds) rfl h.1 fun i d e r e1 e2 => ?_
    rw [e1] at e2
    cases e2
    obtain ⟨r', e3⟩ := same_flat' hf m n (st ++ r) d (okDs_get h.2 e1)
    rw [show n + 6 + 6 * m + 14 = n + 20 + 6 * m by omega]
    exact ⟨r ++ r', by rw [e3, List.append_assoc]⟩
/-- two lists of flat data -/
theorem same_list' (hf : fns[s]? = some (fSame s)) (m n : Nat) (st : Store) (l l' : Nat) (ds : List D) (h : listAt st l = some ds) (h' : listAt st l' = some ds) (hl : ds.length < 1000000) (ho : okDs m ds = true) :
    ∃ r, (run fns (n + 26 + 6 * m)).call s [.loc l, .loc l'] st = some (.bl true, st ++ r) := by
  rw [show n + 26 + 6 * m = (n + 6 + 6 * m) + 20 by omega]
  refine same_seq hf _ st _ _ ds ds .lst (.lst h) (.lst h') rfl hl fun i d e r e1 e2 => ?_
  rw [e1] at e2
  cases e2
  obtain ⟨r', e3⟩ := same_flat' hf m n (st ++ r) d (okDs_get ho e1)
  rw [show n + 6 + 6 * m + 14 = n + 20 + 6 * m by omega]
  exact ⟨r ++ r', by rw [e3, List.append_assoc]⟩
theorem same_flat (hf : fns[s]? = some (fSame s)) (N m : Nat) (hN : 20 + 6 * m ≤ N) (st : Store) (d : D) (ho : okD m d = true) : ∃ r, (run fns N).call s [d, d] st = some (.bl true, st ++ r) := by
  have := same_flat' hf m (N - (20 + 6 * m)) st d ho
  rwa [show N - (20 + 6 * m) + 20 + 6 * m = N by omega] at this
theorem same_list (hf : fns[s]? = some (fSame s)) (N m : Nat) (hN : 26 + 6 * m ≤ N) (st : Store) (l l' : Nat) (ds : List D) (h : listAt st l = some ds) (h' : listAt st l' = some ds) (hl : ds.length < 1000000) (ho : okDs m ds = true) :
    ∃ r, (run fns N).call s [.loc l, .loc l'] st = some (.bl true, st ++ r) := by
  have := same_list' hf m (N - (26 + 6 * m)) st l l' ds h h' hl ho
  rwa [show N - (26 + 6 * m) + 26 + 6 * m = N by omega] at this
end
end M
end
section
set_option linter.all false
set_option maxRecDepth 10000
set_option maxHeartbeats 2000000
namespace M
/-! ### rectangles, powers of ten -/
def cRect (g : Nat) : List S := [
  .set (.var 5) (.bcall .sorted [(.lst [(.call g [(.var 0), (.var 1), (.var 2), (.var 3)]), (.call g [(.var 0), (.var 1), (.bin .Add (.var 2) (.lit (.int 1))), (.var 3)])])]),
  .set (.var 6) (.bcall .sorted [(.lst [(.call g [(.var 0), (.var 1), (.bin .Add (.var 2) (.lit (.int 2))), (.var 4)]), (.call g [(.var 0), (.var 1), (.bin .Add (.var 2) (.lit (.int 3))), (.var 4)])])]),
  .ret (.tup [(.idx (.var 5) (.lit (.int 0))), (.idx (.var 6) (.lit (.int 0))), (.idx (.var 5) (.lit (.int 1))), (.idx (.var 6) (.lit (.int 1)))])]
def fRect (g : Nat) : Fn := ⟨5, 7, cRect g⟩
def cTen : List S := [
  .set (.var 1) (.lit (.int 1)),
  .forr (.var 2) (.rng1 (.var 0)) [.set (.var 1) (.bin .Mult (.var 1) (.lit (.int 10)))],
  .ret (.var 1)]
def fTen : Fn := ⟨1, 3, cTen⟩
theorem sort2 (a b : Int) : ∃ lo hi, sortInt [a, b] = [lo, hi] ∧ lo ≤ hi ∧ ((lo = a ∧ hi = b) ∨ (lo = b ∧ hi = a)) := by
  by_cases h : a ≤ b
  · exact ⟨a, b, by simp [sortInt, insInt, h], h, .inl ⟨rfl, rfl⟩⟩
  · exact ⟨b, a, by simp [sortInt, insInt, h], by omega, .inr ⟨rfl, rfl⟩⟩
section
variable {fns : List Fn} {g f : Nat}
theorem rect_ok' (hg : fns[g]? = some fDraw) (hf : fns[f]? = some (fRect g)) (n : Nat) (st : Store) (l : Nat) (ns : List Int) (k j wide tall : Int) (hl : listAt st l = some (ns.map D.int)) (hn : ns.length ≤ 63) (hk : 0 ≤ k) (hk2 : k < 1000) (hj : 0 ≤ j) (hj2 : j < 900) (hw : 0 < wide) (ht : 0 < tall) :
    ∃ (a b c d : Int) (r : Store), 0 ≤ a ∧ a ≤ c ∧ c < wide ∧ 0 ≤ b ∧ b ≤ d ∧ d < tall ∧ (run fns (n + 30)).call f [.loc l, .int k, .int j, .int wide, .int tall] st = some (.tup [.int a, .int b, .int c, .int d], st ++ r) := by
  obtain ⟨r1, p1, q1, e1⟩ := draw_ok hg (n + 25) (by omega) st l ns k j wide hl hn hk hk2 hj (by omega) hw
  obtain ⟨r2, p2, q2, e2⟩ := draw_ok hg (n + 25) (by omega) st l ns k (j + 1) wide hl hn hk hk2 (by omega) (by omega) hw
  obtain ⟨a, c, s1, o1, z1⟩ := sort2 r1 r2
  have hl2 := listAt_old hl [.lst true [.int r1, .int r2], .lst true [.int a, .int c]]
  obtain ⟨r3, p3, q3, e3⟩ := draw_ok hg (n + 25) (by omega) _ l ns k (j + 2) tall hl2 hn hk hk2 (by omega) (by omega) ht
  obtain ⟨r4, p4, q4, e4⟩ := draw_ok hg (n + 25) (by omega) _ l ns k (j + 3) tall hl2 hn hk hk2 (by omega) (by omega) ht
  obtain ⟨b, d, s2, o2, z2⟩ := sort2 r3 r4
  refine ⟨a, b, c, d, [.lst true [.int r1, .int r2], .lst true [.int a, .int c], .lst true [.int r3, .int r4], .lst true [.int b, .int d]], ?_, o1, ?_, ?_, o2, ?_, call_of hf rfl rfl ?_⟩
  · rcases z1 with ⟨z, w⟩ | ⟨z, w⟩ <;> omega
  · rcases z1 with ⟨z, w⟩ | ⟨z, w⟩ <;> omega
  · rcases z2 with ⟨z, w⟩ | ⟨z, w⟩ <;> omega
  · rcases z2 with ⟨z, w⟩ | ⟨z, w⟩ <;> omega
  have x1 : stepEx (run fns (n + 28)) [some (.loc l), some (.int k), some (.int j), some (.int wide), some (.int tall), none, none] st (.set (.var 5) (.bcall .sorted [(.lst [(.call g [(.var 0), (.var 1), (.var 2), (.var 3)]), (.call g [(.var 0), (.var 1), (.bin .Add (.var 2) (.lit (.int 1))), (.var 3)])])])) =
      some (.nx [some (.loc l), some (.int k), some (.int j), some (.int wide), some (.int tall), some (.loc (st.length + 1)), none], st ++ [.lst true [.int r1, .int r2], .lst true [.int a, .int c]]) := by
    simp [stepEx, ev_s, stepEv, evs, e1, e2, binop, bfun, bSorted, lim, alloc, listAt, asInts, s1, setT]
  have x2 : stepEx (run fns (n + 28)) [some (.loc l), some (.int k), some (.int j), some (.int wide), some (.int tall), some (.loc (st.length + 1)), none] (st ++ [.lst true [.int r1, .int r2], .lst true [.int a, .int c]]) (.set (.var 6) (.bcall .sorted [(.lst [(.call g [(.var 0), (.var 1), (.bin .Add (.var 2) (.lit (.int 2))), (.var 4)]), (.call g [(.var 0), (.var 1), (.bin .Add (.var 2) (.lit (.int 3))), (.var 4)])])])) =
      some (.nx [some (.loc l), some (.int k), some (.int j), some (.int wide), some (.int tall), some (.loc (st.length + 1)), some (.loc (st.length + 3))], st ++ [.lst true [.int r1, .int r2], .lst true [.int a, .int c], .lst true [.int r3, .int r4], .lst true [.int b, .int d]]) := by
    simp [stepEx, ev_s, stepEv, evs, e3, e4, binop, bfun, bSorted, lim, alloc, listAt, asInts, s2, setT]
  show exs (stepEx (run fns (n + 28))) (cRect g) [some (.loc l), some (.int k), some (.int j), some (.int wide), some (.int tall), none, none] st = _
  unfold cRect
  rw [exs_cons x1, exs_cons x2]
  refine exs_ret ?_
  simp [stepEx, ev_s, stepEv, evs, idxD, listAt, atI, ixN, lim]
theorem ten_ok' (hf : fns[f]? = some fTen) (n : Nat) (st : Store) (many : Int) (h0 : 0 ≤ many) (h1 : many < 1000) : ∃ z, (run fns (n + 20)).call f [.int many] st = some (.int z, st) := by
  have hb : big many = false := by unfold big; simp; omega
  obtain ⟨τ', st', e, r, o, rfl, e9⟩ := loop_rng (lo := 0) (n := many.toNat) (τ := [some (.int many), some (.int 1), none]) (st := st)
    (f := fun τ st d => (setT (.var 2) d τ).bind fun τ' => (run fns (n + 18)).ex τ' st [.set (.var 1) (.bin .Mult (.var 1) (.lit (.int 10)))])
    (fun i τ s => ∃ (r : Int) (o : Option D), τ = [some (.int many), some (.int r), o] ∧ s = st) ⟨1, none, rfl, rfl⟩ (by
      rintro i τ s hi ⟨r, o, rfl, rfl⟩
      have m1 : mulOk r 10 = true := mulOk_r (by decide) (by decide)
      refine ⟨[some (.int many), some (.int (r * 10)), some (.int (0 + i))], s, ?_, r * 10, _, rfl, rfl⟩
      simp [setT, ex_s, exs, stepEx, ev_s, stepEv, binop, m1])
  rw [e9] at e
  refine ⟨r, call_of hf rfl rfl ?_⟩
  show exs (stepEx (run fns (n + 18))) cTen [some (.int many), none, none] st = _
  unfold cTen
  rw [exs_cons (τ' := [some (.int many), some (.int 1), none]) (s' := st) (by simp [stepEx, ev_s, stepEv, setT])]
  rw [exs_cons (τ' := [some (.int many), some (.int r), o]) (s' := st) (by
    simp only [stepEx, src, ev_s, stepEv, Src.size]
    simp only [List.getElem?_cons_succ, List.getElem?_cons_zero, Option.bind_some, hb, Bool.false_eq_true, if_false]
    exact e)]
  refine exs_ret ?_
  simp [stepEx, ev_s, stepEv]
theorem rect_ok (hg : fns[g]? = some fDraw) (hf : fns[f]? = some (fRect g)) (N : Nat) (hN : 30 ≤ N) (st : Store) (l : Nat) (ns : List Int) (k j wide tall : Int) (hl : listAt st l = some (ns.map D.int)) (hn : ns.length ≤ 63) (hk : 0 ≤ k) (hk2 : k < 1000) (hj : 0 ≤ j) (hj2 : j < 900) (hw : 0 < wide) (ht : 0 < tall) :
    ∃ (a b c d : Int) (r : Store), 0 ≤ a ∧ a ≤ c ∧ c < wide ∧ 0 ≤ b ∧ b ≤ d ∧ d < tall ∧ (run fns N).call f [.loc l, .int k, .int j, .int wide, .int tall] st = some (.tup [.int a, .int b, .int c, .int d], st ++ r) := by
  have := rect_ok' hg hf (N - 30) st l ns k j wide tall hl hn hk hk2 hj hj2 hw ht
  rwa [show N - 30 + 30 = N by omega] at this
theorem ten_ok (hf : fns[f]? = some fTen) (N : Nat) (hN : 20 ≤ N) (st : Store) (many : Int) (h0 : 0 ≤ many) (h1 : many < 1000) : ∃ z, (run fns N).call f [.int many] st = some (.int z, st) := by
  have := ten_ok' hf (N - 20) st many h0 h1
  rwa [show N - 20 + 20 = N by omega] at this
theorem append_ok {r : R} {τ : Sl} {st : Store} {ds : List D} {d : D} {i : Nat} {e : E} (hv : r.ev τ (st ++ [.lst true ds]) (.var i) = some (.loc st.length, st ++ [.lst true ds])) (he : r.ev τ (st ++ [.lst true ds]) e = some (d, st ++ [.lst true ds])) (hl : ds.length < lim) :
    stepEv r τ (st ++ [.lst true ds]) (.meth (.var i) .append [e]) = some (.non, st ++ [.lst true (ds ++ [d])]) := by
  simp only [stepEv, hv, he, evs, Option.bind_some, mty, Bool.true_and, listAt_new, Option.isSome_some, if_true, mfun, mAppend, wlistAt_new, hl, set_new]
/-! ### the cells of a rectangle -/
def rowD (a : Int) (w : Nat) (y : Int) : List D := (List.range w).map fun (i : Nat) => .tup [.int (a + (i : Int)), .int y]
def cellsN (a b : Int) (w h : Nat) : List D := (List.range h).flatMap fun (j : Nat) => rowD a w (b + (j : Int))
theorem rowD_succ (a : Int) (w : Nat) (y : Int) : rowD a (w + 1) y = rowD a w y ++ [.tup [.int (a + w), .int y]] := by
  unfold rowD
  rw [List.range_succ, List.map_append]
  rfl
theorem cellsN_succ (a b : Int) (w h : Nat) : cellsN a b w (h + 1) = cellsN a b w h ++ rowD a w (b + h) := by
  unfold cellsN
  rw [List.range_succ, List.flatMap_append]
  simp
theorem rowD_length (a : Int) (w : Nat) (y : Int) : (rowD a w y).length = w := by simp [rowD]
theorem cellsN_length (a b : Int) (w : Nat) : ∀ h : Nat, (cellsN a b w h).length = w * h
  | 0 => rfl
  | h + 1 => by rw [cellsN_succ, List.length_append, cellsN_length a b w h, rowD_length, Nat.mul_succ]
theorem mem_cells {a b : Int} {w h : Nat} {d : D} (hd : d ∈ cellsN a b w h) : ∃ i j : Nat, i < w ∧ j < h ∧ d = .tup [.int (a + i), .int (b + j)] := by
  unfold cellsN rowD at hd
  rw [List.mem_flatMap] at hd
  obtain ⟨j, hj, hd⟩ := hd
  rw [List.mem_map] at hd
  obtain ⟨i, hi, rfl⟩ := hd
  exact ⟨i, j, List.mem_range.mp hi, List.mem_range.mp hj, rfl⟩
theorem cells_mem {a b : Int} {w h i j : Nat} (hi : i < w) (hj : j < h) : D.tup [.int (a + i), .int (b + j)] ∈ cellsN a b w h := by
  unfold cellsN rowD
  rw [List.mem_flatMap]
  refine ⟨j, List.mem_range.mpr hj, ?_⟩
  rw [List.mem_map]
  exact ⟨i, List.mem_range.mpr hi, rfl⟩
theorem flats_of {n : Nat} : ∀ {ds : List D}, (∀ d ∈ ds, flat n d = true) → flats n ds = true
  | [], _ => by rw [flats]
  | d :: ds, h => by
    rw [flats, h d List.mem_cons_self, flats_of fun e he => h e (List.mem_cons_of_mem _ he)]
    rfl
theorem okDs_of {n : Nat} : ∀ {ds : List D}, (∀ d ∈ ds, okD n d = true) → okDs n ds = true
  | [], _ => by rw [okDs]
  | d :: ds, h => by
    rw [okDs, h d List.mem_cons_self, okDs_of fun e he => h e (List.mem_cons_of_mem _ he)]
    rfl
theorem flat_pair (x y : Int) : flat 9 (.tup [.int x, .int y]) = true := by
  rw [flat, flats, flats, flats, flat_i, flat_i]
  rfl
theorem okD_i (n : Nat) (x : Int) : okD n (.int x) = true := by cases n <;> rfl
theorem okD_b (n : Nat) (x : Bool) : okD n (.bl x) = true := by cases n <;> rfl
theorem ok_pair (x y : Int) : okD 1 (.tup [.int x, .int y]) = true := by
  rw [okD, okDs, okDs, okDs, okD_i, okD_i]
  rfl
theorem flats_cells (a b : Int) (w h : Nat) : flats 9 (cellsN a b w h) = true := flats_of fun d hd => by
  obtain ⟨i, j, _, _, rfl⟩ := mem_cells hd
  exact flat_pair _ _
theorem ok_cells (a b : Int) (w h : Nat) : okDs 1 (cellsN a b w h) = true := okDs_of fun d hd => by
  obtain ⟨i, j, _, _, rfl⟩ := mem_cells hd
  exact ok_pair _ _
theorem eqT_pair (p q x y : Int) : eqT (.tup [.int p, .int q]) (.tup [.int x, .int y]) = (p == x && q == y) := by
  rw [eqT, eqTs, eqTs, eqTs, eqT_ii, eqT_ii, Bool.and_true]
theorem any_cells (a b c d x y : Int) : ((cellsN a b (c + 1 - a).toNat (d + 1 - b).toNat).any fun e => eqT e (.tup [.int x, .int y])) = decide (a ≤ x ∧ x ≤ c ∧ b ≤ y ∧ y ≤ d) := by
  rw [Bool.eq_iff_iff, List.any_eq_true, decide_eq_true_eq]
  constructor
  · rintro ⟨e, he, q⟩
    obtain ⟨i, j, hi, hj, rfl⟩ := mem_cells he
    rw [eqT_pair, Bool.and_eq_true, beq_iff_eq, beq_iff_eq] at q
    omega
  · rintro ⟨h1, h2, h3, h4⟩
    refine ⟨_, cells_mem (i := (x - a).toNat) (j := (y - b).toNat) (by omega) (by omega), ?_⟩
    rw [eqT_pair, Bool.and_eq_true, beq_iff_eq, beq_iff_eq]
    omega
end
end M
end
section
set_option linter.all false
set_option maxRecDepth 10000
set_option maxHeartbeats 2000000
namespace M
def cCells : List M.S := [
  .set (.var 1) (.lst []),
  .forr (.var 2) (.rng2 (.idx (.var 0) (.glo (PySem.Str.ofString "TOP") (.int 1))) (.bin .Add (.idx (.var 0) (.glo (PySem.Str.ofString "LOW") (.int 3))) (.lit (.int 1)))) [.forr (.var 3) (.rng2 (.idx (.var 0) (.glo (PySem.Str.ofString "LEFT") (.int 0))) (.bin .Add (.idx (.var 0) (.glo (PySem.Str.ofString "RIGHT") (.int 2))) (.lit (.int 1)))) [.expr (.meth (.var 1) .append [(.tup [(.var 3), (.var 2)])])]],
  .ret (.var 1)]
def fCells : Fn := ⟨1, 4, cCells⟩
section
variable {fns : List Fn} {f : Nat}
theorem small_len {a b : Int} {w h k i : Nat} (hw : w ≤ 24) (hh : h ≤ 24) (hi : i ≤ h) (hk : k ≤ w) : (cellsN a b w i ++ rowD a k (b + i)).length < lim := by
  rw [List.length_append, cellsN_length, rowD_length]
  have : w * i ≤ 24 * 24 := Nat.mul_le_mul hw (by omega)
  unfold lim
  omega
/-- the two loops of cells -/
theorem cells_ok' (hf : fns[f]? = some fCells) (n : Nat) (st : Store) (a b c d : Int) (h0 : 0 ≤ a) (h1 : a ≤ c) (h2 : c < 24) (h3 : 0 ≤ b) (h4 : b ≤ d) (h5 : d < 24) :
    (run fns (n + 20)).call f [.tup [.int a, .int b, .int c, .int d]] st = some (.loc st.length, st ++ [.lst true (cellsN a b (c + 1 - a).toNat (d + 1 - b).toNat)]) := by
  refine call_of hf rfl rfl ?_
  show exs (stepEx (run fns (n + 18))) cCells [some (.tup [.int a, .int b, .int c, .int d]), none, none, none] st = _
  have hbig : ∀ z : Int, 0 ≤ z → z < 100 → big z = false := fun z z0 z1 => by unfold big; simp; omega
  have inner : ∀ (i : Nat) (o : Option D), i < (d + 1 - b).toNat → ∃ o', stepEx (run fns (n + 17)) [some (.tup [.int a, .int b, .int c, .int d]), some (.loc st.length), some (.int (b + i)), o] (st ++ [.lst true (cellsN a b (c + 1 - a).toNat i)])
      (.forr (.var 3) (.rng2 (.idx (.var 0) (.glo (PySem.Str.ofString "LEFT") (.int 0))) (.bin .Add (.idx (.var 0) (.glo (PySem.Str.ofString "RIGHT") (.int 2))) (.lit (.int 1)))) [.expr (.meth (.var 1) .append [(.tup [(.var 3), (.var 2)])])]) =
      some (.nx [some (.tup [.int a, .int b, .int c, .int d]), some (.loc st.length), some (.int (b + i)), o'], st ++ [.lst true (cellsN a b (c + 1 - a).toNat (i + 1))]) := by
    intro i o hi
    obtain ⟨τ', st', e, o', e8, e9⟩ := loop_rng (lo := a) (n := (c + 1 - a).toNat) (τ := [some (.tup [.int a, .int b, .int c, .int d]), some (.loc st.length), some (.int (b + i)), o]) (st := st ++ [.lst true (cellsN a b (c + 1 - a).toNat i)])
      (f := fun τ st d => (setT (.var 3) d τ).bind fun τ' => (run fns (n + 17)).ex τ' st [.expr (.meth (.var 1) .append [(.tup [(.var 3), (.var 2)])])])
      (fun k τ s => ∃ (o : Option D), τ = [some (.tup [.int a, .int b, .int c, .int d]), some (.loc st.length), some (.int (b + i)), o] ∧ s = st ++ [.lst true (cellsN a b (c + 1 - a).toNat i ++ rowD a k (b + i))]) ⟨o, rfl, by simp [rowD]⟩ (by
        rintro k τ s hk ⟨o, rfl, rfl⟩
        have hs := small_len (a := a) (b := b) (w := (c + 1 - a).toNat) (h := (d + 1 - b).toNat) (k := k) (i := i) (by omega) (by omega) (by omega) (by omega)
        refine ⟨[some (.tup [.int a, .int b, .int c, .int d]), some (.loc st.length), some (.int (b + i)), some (.int (a + k))], st ++ [.lst true (cellsN a b (c + 1 - a).toNat i ++ rowD a (k + 1) (b + i))], ?_, _, rfl, rfl⟩
        have ha := append_ok (r := run fns (n + 15)) (τ := [some (.tup [.int a, .int b, .int c, .int d]), some (.loc st.length), some (.int (b + i)), some (.int (a + k))]) (st := st) (i := 1) (e := .tup [.var 3, .var 2]) (d := .tup [.int (a + k), .int (b + i)]) rfl (by simp [ev_s, stepEv, evs, lim]) hs
        simp only [setT, List.length_cons, List.length_nil, Nat.reduceAdd, Nat.reduceLT, if_true, Option.bind_some, List.set_cons_succ, List.set_cons_zero, ex_s]
        rw [exs_cons (by rw [stepEx, ev_s, ha]; rfl), rowD_succ, List.append_assoc]
        rfl)
    refine ⟨o', ?_⟩
    subst e8
    rw [cellsN_succ]
    rw [e9] at e
    simp only [stepEx, src, ev_s, stepEv, Src.size]
    simp only [List.getElem?_cons_succ, List.getElem?_cons_zero, Option.bind_some, idxD, atI, ixN, binop, Option.map_some, List.length_cons, List.length_nil]
    simp only [Int.reduceLE, Int.reduceToNat, Nat.reduceAdd, if_true, show (0:Int) < ((4:Nat):Int) by decide, show (2:Int) < ((4:Nat):Int) by decide, Option.bind_some, Option.map_some, List.getElem?_cons_zero, List.getElem?_cons_succ, hbig a h0 (by omega), hbig (c + 1) (by omega) (by omega), Bool.or_self, Bool.false_eq_true, if_false]
    exact e
  obtain ⟨τ', st', e, o, o', e8, e9⟩ := loop_rng (lo := b) (n := (d + 1 - b).toNat) (τ := [some (.tup [.int a, .int b, .int c, .int d]), some (.loc st.length), none, none]) (st := st ++ [.lst true []])
    (f := fun τ st d => (setT (.var 2) d τ).bind fun τ' => (run fns (n + 18)).ex τ' st [.forr (.var 3) (.rng2 (.idx (.var 0) (.glo (PySem.Str.ofString "LEFT") (.int 0))) (.bin .Add (.idx (.var 0) (.glo (PySem.Str.ofString "RIGHT") (.int 2))) (.lit (.int 1)))) [.expr (.meth (.var 1) .append [(.tup [(.var 3), (.var 2)])])]])
    (fun i τ s => ∃ (o o' : Option D), τ = [some (.tup [.int a, .int b, .int c, .int d]), some (.loc st.length), o, o'] ∧ s = st ++ [.lst true (cellsN a b (c + 1 - a).toNat i)]) ⟨none, none, rfl, rfl⟩ (by
      rintro i τ s hi ⟨o, o', rfl, rfl⟩
      obtain ⟨o2, e2⟩ := inner i o' hi
      refine ⟨[some (.tup [.int a, .int b, .int c, .int d]), some (.loc st.length), some (.int (b + i)), o2], st ++ [.lst true (cellsN a b (c + 1 - a).toNat (i + 1))], ?_, _, _, rfl, rfl⟩
      · simp only [setT, List.length_cons, List.length_nil, Nat.reduceAdd, Nat.reduceLT, if_true, Option.bind_some, List.set_cons_succ, List.set_cons_zero, ex_s]
        rw [exs_cons e2]
        rfl)
  subst e8
  rw [e9] at e
  unfold cCells
  rw [exs_cons (τ' := [some (.tup [.int a, .int b, .int c, .int d]), some (.loc st.length), none, none]) (s' := st ++ [.lst true []]) (by simp [stepEx, ev_s, stepEv, evs, lim, alloc, setT])]
  rw [exs_cons (τ' := [some (.tup [.int a, .int b, .int c, .int d]), some (.loc st.length), o, o']) (s' := st ++ [.lst true (cellsN a b (c + 1 - a).toNat (d + 1 - b).toNat)]) (by
    simp only [stepEx, src, ev_s, stepEv, Src.size]
    simp only [List.getElem?_cons_succ, List.getElem?_cons_zero, Option.bind_some, idxD, atI, ixN, binop, Option.map_some, List.length_cons, List.length_nil]
    simp only [Int.reduceLE, Int.reduceToNat, Nat.reduceAdd, if_true, show (1:Int) < ((4:Nat):Int) by decide, show (3:Int) < ((4:Nat):Int) by decide, Option.bind_some, Option.map_some, List.getElem?_cons_zero, List.getElem?_cons_succ, hbig b h3 (by omega), hbig (d + 1) (by omega) (by omega), Bool.or_self, Bool.false_eq_true, if_false]
    exact e)]
  refine exs_ret ?_
  simp [stepEx, ev_s, stepEv]
theorem cells_ok (hf : fns[f]? = some fCells) (N : Nat) (hN : 20 ≤ N) (st : Store) (a b c d : Int) (h0 : 0 ≤ a) (h1 : a ≤ c) (h2 : c < 24) (h3 : 0 ≤ b) (h4 : b ≤ d) (h5 : d < 24) :
    (run fns N).call f [.tup [.int a, .int b, .int c, .int d]] st = some (.loc st.length, st ++ [.lst true (cellsN a b (c + 1 - a).toNat (d + 1 - b).toNat)]) := by
  have := cells_ok' hf (N - 20) st a b c d h0 h1 h2 h3 h4 h5
  rwa [show N - 20 + 20 = N by omega] at this
/-! ### a comprehension over a list -/
theorem loopC_lst' {g : Sl → Store → D → Option (Option D × Sl × Store)} {l : Nat} {ds : List D} (P : Nat → List D → Sl → Store → Prop) (hL : ∀ i acc τ st, i ≤ ds.length → P i acc τ st → listAt st l = some ds) (hl : ∀ i acc τ st, i ≤ ds.length → P i acc τ st → acc.length < lim)
    (hs : ∀ i acc τ st d, ds[i]? = some d → P i acc τ st → ∃ o τ' st', g τ st d = some (o, τ', st') ∧ P (i + 1) (match o with | some x => acc ++ [x] | none => acc) τ' st') :
    ∀ (k i : Nat) (acc : List D) (τ : Sl) (st : Store), i + k = ds.length → P i acc τ st → ∃ acc' τ' st', loopC (.lst l) g (k + 1) i acc τ st = some (acc', st') ∧ P ds.length acc' τ' st'
  | 0, i, acc, τ, st, h, p => by
    have e : i = ds.length := by omega
    subst e
    have h1 := hL _ acc τ st (Nat.le_refl _) p
    have h2 := hl _ acc τ st (Nat.le_refl _) p
    refine ⟨acc, τ, st, ?_, p⟩
    rw [loopC]
    simp only [Src.at, h1, Option.map_some, Option.bind_some, List.getElem?_eq_none (Nat.le_refl _)]
    rw [if_neg (by omega)]
  | k + 1, i, acc, τ, st, h, p => by
    have hi : i < ds.length := by omega
    have h1 := hL _ acc τ st (by omega) p
    have h2 := hl _ acc τ st (by omega) p
    have h3 : ds[i]? = some ds[i] := by simp
    obtain ⟨o, τ', st', e, q⟩ := hs i acc τ st _ h3 p
    obtain ⟨acc2, τ2, st2, e2, q2⟩ := loopC_lst' P hL hl hs k (i + 1) _ τ' st' (by omega) q
    refine ⟨acc2, τ2, st2, ?_, q2⟩
    rw [loopC]
    simp only [Src.at, h1, Option.map_some, Option.bind_some, h3, e]
    rw [if_neg (by omega)]
    exact e2
theorem loopC_lst {g : Sl → Store → D → Option (Option D × Sl × Store)} {l : Nat} {ds : List D} {τ : Sl} {st : Store} (P : Nat → List D → Sl → Store → Prop) (h0 : P 0 [] τ st) (hL : ∀ i acc τ st, i ≤ ds.length → P i acc τ st → listAt st l = some ds) (hl : ∀ i acc τ st, i ≤ ds.length → P i acc τ st → acc.length < lim)
    (hs : ∀ i acc τ st d, ds[i]? = some d → P i acc τ st → ∃ o τ' st', g τ st d = some (o, τ', st') ∧ P (i + 1) (match o with | some x => acc ++ [x] | none => acc) τ' st') :
    ∃ acc' τ' st', loopC (.lst l) g (ds.length + 1) 0 [] τ st = some (acc', st') ∧ P ds.length acc' τ' st' := loopC_lst' P hL hl hs ds.length 0 [] τ st (by omega) h0
/-! ### cells as pairs, in their order -/
def toD (p : Int × Int) : D := .tup [.int p.1, .int p.2]
def cellsP (a b : Int) (w h : Nat) : List (Int × Int) := (List.range h).flatMap fun (j : Nat) => (List.range w).map fun (i : Nat) => (a + (i : Int), b + (j : Int))
theorem cellsP_map (a b : Int) (w h : Nat) : (cellsP a b w h).map toD = cellsN a b w h := by
  unfold cellsP cellsN rowD
  rw [List.map_flatMap]
  simp [toD, Function.comp_def]
theorem mem_cellsP {a b : Int} {w h : Nat} {p : Int × Int} : p ∈ cellsP a b w h ↔ a ≤ p.1 ∧ p.1 < a + w ∧ b ≤ p.2 ∧ p.2 < b + h := by
  unfold cellsP
  rw [List.mem_flatMap]
  constructor
  · rintro ⟨j, hj, hp⟩
    rw [List.mem_map] at hp
    obtain ⟨i, hi, rfl⟩ := hp
    have := List.mem_range.mp hi
    have := List.mem_range.mp hj
    dsimp only
    omega
  · rintro ⟨h1, h2, h3, h4⟩
    refine ⟨(p.2 - b).toNat, List.mem_range.mpr (by omega), ?_⟩
    rw [List.mem_map]
    refine ⟨(p.1 - a).toNat, List.mem_range.mpr (by omega), ?_⟩
    obtain ⟨x, y⟩ := p
    dsimp only at *
    rw [show a + ((x - a).toNat : Int) = x by omega, show b + ((y - b).toNat : Int) = y by omega]
def rowLt (p q : Int × Int) : Prop := p.2 < q.2 ∨ (p.2 = q.2 ∧ p.1 < q.1)
theorem cellsP_sorted (a b : Int) (w h : Nat) : (cellsP a b w h).Pairwise rowLt := by
  unfold cellsP
  rw [List.pairwise_flatMap]
  refine ⟨fun j _ => ?_, ?_⟩
  · rw [List.pairwise_map]
    refine List.pairwise_lt_range.imp ?_
    intro x y hxy
    exact .inr ⟨rfl, by dsimp only; omega⟩
  · refine List.pairwise_lt_range.imp ?_
    intro x y hxy p hp q hq
    rw [List.mem_map] at hp hq
    obtain ⟨_, _, rfl⟩ := hp
    obtain ⟨_, _, rfl⟩ := hq
    exact .inl (by dsimp only; omega)
end
end M
end
section
set_option linter.all false
namespace M
open PySem (Str)
/-! ### more fuel, the same answer -/
def OLe {α : Type} (a b : Option α) : Prop := ∀ x, a = some x → b = some x
theorem OLe.refl {α : Type} (a : Option α) : OLe a a := fun _ h => h
theorem OLe.none {α : Type} (b : Option α) : OLe Option.none b := fun _ h => by cases h
theorem OLe.bind {α β : Type} {f f' : Option α} {g g' : α → Option β} (hf : OLe f f') (hg : ∀ a, OLe (g a) (g' a)) : OLe (f.bind g) (f'.bind g') := fun x h => by
  cases e : f with
  | none => rw [e] at h; cases h
  | some a => rw [e] at h; rw [hf a e]; exact hg a x h
theorem OLe.map {α β : Type} {f f' : Option α} (g : α → β) (hf : OLe f f') : OLe (f.map g) (f'.map g) := fun x h => by
  cases e : f with
  | none => rw [e] at h; cases h
  | some a => rw [e] at h; rw [hf a e]; exact h
theorem OLe.ite {α : Type} {c : Prop} [Decidable c] {a b a' b' : Option α} (ha : OLe a a') (hb : OLe b b') : OLe (if c then a else b) (if c then a' else b') := by
  by_cases h : c
  · rw [if_pos h, if_pos h]; exact ha
  · rw [if_neg h, if_neg h]; exact hb
structure Le (r r' : R) : Prop where
  ev : ∀ τ st e, OLe (r.ev τ st e) (r'.ev τ st e)
  tst : ∀ τ st e, OLe (r.tst τ st e) (r'.tst τ st e)
  ex : ∀ τ st e, OLe (r.ex τ st e) (r'.ex τ st e)
  call : ∀ f ds st, OLe (r.call f ds st) (r'.call f ds st)
theorem evs_mono {f f' : Store → E → Option (D × Store)} (h : ∀ st e, OLe (f st e) (f' st e)) : ∀ (es : List E) (st : Store), OLe (evs f es st) (evs f' es st)
  | [], st => .refl _
  | e :: es, st => (h st e).bind fun p => (evs_mono h es p.2).bind fun q => .refl _
theorem loop_mono {it : Src} {f f' : Sl → Store → D → Option (Out × Store)} (h : ∀ τ st d, OLe (f τ st d) (f' τ st d)) : ∀ (k i : Nat) (τ : Sl) (st : Store), OLe (loop it f k i τ st) (loop it f' k i τ st)
  | 0, _, _, _ => .refl _
  | k + 1, i, τ, st => by
    unfold loop
    refine (OLe.refl _).bind fun o => ?_
    cases o with
    | none => exact .refl _
    | some d =>
      refine (h τ st d).bind fun p => ?_
      cases hp : p.1 with
      | nx τ' => exact loop_mono h k _ _ _
      | ct τ' => exact loop_mono h k _ _ _
      | bk τ' => exact .refl _
      | rt v => exact .refl _
theorem loopC_mono {it : Src} {f f' : Sl → Store → D → Option (Option D × Sl × Store)} (h : ∀ τ st d, OLe (f τ st d) (f' τ st d)) : ∀ (k i : Nat) (acc : List D) (τ : Sl) (st : Store), OLe (loopC it f k i acc τ st) (loopC it f' k i acc τ st)
  | 0, _, _, _, _ => .refl _
  | k + 1, i, acc, τ, st => by
    unfold loopC
    refine (OLe.refl _).bind fun o => ?_
    cases o with
    | none => exact .refl _
    | some d => exact OLe.ite (.refl _) ((h τ st d).bind fun p => loopC_mono h k _ _ _ _)
theorem loopW_mono {f f' : Sl → Store → Option (Bool × Store)} {g g' : Sl → Store → Option (Out × Store)} (h : ∀ τ st, OLe (f τ st) (f' τ st)) (h' : ∀ τ st, OLe (g τ st) (g' τ st)) : ∀ (k : Nat) (τ : Sl) (st : Store), OLe (loopW f g k τ st) (loopW f' g' k τ st)
  | 0, _, _ => .refl _
  | k + 1, τ, st => by
    unfold loopW
    refine (h τ st).bind fun b => OLe.ite ((h' τ _).bind fun p => ?_) (.refl _)
    cases hp : p.1 with
    | nx τ' => exact loopW_mono h h' k _ _
    | ct τ' => exact loopW_mono h h' k _ _
    | bk τ' => exact .refl _
    | rt v => exact .refl _
theorem exs_mono {f f' : Sl → Store → S → Option (Out × Store)} (h : ∀ τ st s, OLe (f τ st s) (f' τ st s)) : ∀ (ss : List S) (τ : Sl) (st : Store), OLe (exs f ss τ st) (exs f' ss τ st)
  | [], _, _ => .refl _
  | s :: ss, τ, st => by
    unfold exs
    refine (h τ st s).bind fun p => ?_
    cases hp : p.1 with
    | nx τ' => exact exs_mono h ss _ _
    | _ => exact .refl _
section
variable {r r' : R} (h : Le r r')
include h
theorem src_mono (τ : Sl) (st : Store) (e : E) : OLe (src r τ st e) (src r' τ st e) := by
  cases e with
  | rng1 a => exact (h.ev τ st a).bind fun p => .refl _
  | rng2 a b => exact (h.ev τ st a).bind fun p => (h.ev τ _ b).bind fun q => .refl _
  | zip a b => exact (h.ev τ st a).bind fun p => (h.ev τ _ b).bind fun q => .refl _
  | _ => exact (h.ev τ st _).bind fun p => .refl _
theorem part_mono (τ : Sl) (st : Store) (e : Option E) : OLe (part r τ st e) (part r' τ st e) := by
  cases e with
  | none => exact .refl _
  | some e => exact (h.ev τ st e).bind fun p => .refl _
theorem turnC_mono (t : T) (test : Option E) (elt : E) (τ : Sl) (st : Store) (d : D) : OLe (turnC r t test elt τ st d) (turnC r' t test elt τ st d) := by
  unfold turnC
  refine (OLe.refl _).bind fun τ' => ?_
  cases test with
  | none => exact (h.ev _ _ _).map _
  | some c => exact (h.tst _ _ _).bind fun b => OLe.ite ((h.ev _ _ _).map _) (.refl _)
theorem stepEv_mono (τ : Sl) (st : Store) (e : E) : OLe (stepEv r τ st e) (stepEv r' τ st e) := by
  cases e with
  | var i => exact .refl _
  | lit d => exact .refl _
  | glo x d => exact .refl _
  | bin op a b => exact (h.ev τ st a).bind fun p => (h.ev τ _ b).bind fun q => .refl _
  | neg a => exact (h.ev τ st a).bind fun p => .refl _
  | not a => exact (h.ev τ st a).bind fun p => .refl _
  | cmp op a b => exact (h.ev τ st a).bind fun p => (h.ev τ _ b).bind fun q => .refl _
  | cmp2 op op' a b c => exact (h.ev τ st a).bind fun p => (h.ev τ _ b).bind fun q => (OLe.refl _).bind fun k => OLe.ite ((h.ev τ _ c).bind fun u => .refl _) (.refl _)
  | and a b =>
    refine (h.ev τ st a).bind fun p => ?_
    obtain ⟨d, s⟩ := p
    cases d with
    | bl k => cases k with
      | true => exact h.ev τ _ b
      | false => exact .refl _
    | _ => exact .refl _
  | or a b =>
    refine (h.ev τ st a).bind fun p => ?_
    obtain ⟨d, s⟩ := p
    cases d with
    | bl k => cases k with
      | false => exact h.ev τ _ b
      | true => exact .refl _
    | _ => exact .refl _
  | ite c a b => exact (h.tst τ st c).bind fun p => OLe.ite (h.ev τ _ a) (h.ev τ _ b)
  | tup es => exact (evs_mono (h.ev τ) es st).bind fun p => .refl _
  | lst es => exact (evs_mono (h.ev τ) es st).bind fun p => .refl _
  | idx a b => exact (h.ev τ st a).bind fun p => (h.ev τ _ b).bind fun q => .refl _
  | sli a lo hi => exact (h.ev τ st a).bind fun p => (part_mono h τ _ lo).bind fun l => (part_mono h τ _ hi).bind fun u => .refl _
  | call f es => exact (evs_mono (h.ev τ) es st).bind fun p => h.call f _ _
  | bcall f es => exact (evs_mono (h.ev τ) es st).bind fun p => .refl _
  | isi a ts m => exact (h.ev τ st a).bind fun p => .refl _
  | meth a m es => exact (h.ev τ st a).bind fun p => OLe.ite ((evs_mono (h.ev τ) es _).bind fun q => .refl _) (.refl _)
  | rng1 a => exact .refl _
  | rng2 a b => exact .refl _
  | zip a b => exact .refl _
  | comp t it test elt sr => exact (src_mono h τ st it).bind fun p => (loopC_mono (turnC_mono h t test elt) _ _ _ _ _).map _
theorem stepTst_mono (τ : Sl) (st : Store) (e : E) : OLe (stepTst r τ st e) (stepTst r' τ st e) := by
  cases e with
  | not a => exact (h.tst τ st a).map _
  | and a b => exact (h.tst τ st a).bind fun p => OLe.ite (h.tst τ _ b) (.refl _)
  | or a b => exact (h.tst τ st a).bind fun p => OLe.ite (.refl _) (h.tst τ _ b)
  | ite _ _ _ => exact .refl _
  | cmp op a b => exact (h.ev τ st a).bind fun p => (h.ev τ _ b).bind fun q => .refl _
  | cmp2 op op' a b c => exact (h.ev τ st a).bind fun p => (h.ev τ _ b).bind fun q => (OLe.refl _).bind fun k => OLe.ite ((h.ev τ _ c).bind fun u => .refl _) (.refl _)
  | _ => exact (h.ev τ st _).bind fun p => .refl _
theorem stepEx_mono (τ : Sl) (st : Store) (s : S) : OLe (stepEx r τ st s) (stepEx r' τ st s) := by
  cases s with
  | set t e => exact (h.ev τ st e).bind fun p => .refl _
  | setIx a i e => exact (h.ev τ st e).bind fun p => (h.ev τ _ a).bind fun q => (h.ev τ _ i).bind fun u => .refl _
  | expr e => exact (h.ev τ st e).map _
  | ret e => exact (h.ev τ st e).map _
  | retN => exact .refl _
  | ite c a b => exact (h.tst τ st c).bind fun p => OLe.ite (h.ex τ _ a) (h.ex τ _ b)
  | forr t it body => exact (src_mono h τ st it).bind fun p => loop_mono (fun τ st d => (OLe.refl _).bind fun τ' => h.ex τ' st body) _ _ _ _
  | whil c body => exact loopW_mono (fun τ st => h.tst τ st c) (fun τ st => h.ex τ st body) _ _ _
  | aug i op e =>
    show OLe (match τ[i]? with
      | some (some x) => _
      | _ => _) (match τ[i]? with
      | some (some x) => _
      | _ => _)
    split
    · exact (h.ev τ st e).bind fun p => .refl _
    · exact .refl _
  | brk => exact .refl _
  | cnt => exact .refl _
  | pass => exact .refl _
theorem stepCall_mono (fns : List Fn) (f : Nat) (ds : List D) (st : Store) : OLe (stepCall fns r f ds st) (stepCall fns r' f ds st) := by
  unfold stepCall
  split
  · exact OLe.ite ((h.ex _ _ _).bind fun p => .refl _) (.refl _)
  · exact .refl _
theorem step_mono (fns : List Fn) : Le (step fns r) (step fns r') :=
  ⟨stepEv_mono h, stepTst_mono h, fun τ st ss => exs_mono (stepEx_mono h) ss τ st, stepCall_mono h fns⟩
end
theorem run_succ (fns : List Fn) : ∀ n, Le (run fns n) (run fns (n + 1))
  | 0 => ⟨fun _ _ _ => .none _, fun _ _ _ => .none _, fun _ _ _ => .none _, fun _ _ _ => .none _⟩
  | n + 1 => step_mono (run_succ fns n) fns
theorem run_add (fns : List Fn) (n : Nat) : ∀ k, Le (run fns n) (run fns (n + k))
  | 0 => ⟨fun _ _ _ => .refl _, fun _ _ _ => .refl _, fun _ _ _ => .refl _, fun _ _ _ => .refl _⟩
  | k + 1 => ⟨fun τ st e x hx => (run_succ fns (n + k)).ev τ st e x ((run_add fns n k).ev τ st e x hx), fun τ st e x hx => (run_succ fns (n + k)).tst τ st e x ((run_add fns n k).tst τ st e x hx),
    fun τ st e x hx => (run_succ fns (n + k)).ex τ st e x ((run_add fns n k).ex τ st e x hx), fun τ st e x hx => (run_succ fns (n + k)).call τ st e x ((run_add fns n k).call τ st e x hx)⟩
/-- a call answers alike with more fuel -/
theorem call_mono {fns : List Fn} {n N f : Nat} {ds : List D} {st : Store} {x : D × Store} (h : (run fns n).call f ds st = some x) (hN : n ≤ N) : (run fns N).call f ds st = some x := by
  have := (run_add fns n (N - n)).call f ds st x h
  rwa [show n + (N - n) = N by omega] at this
end M
end
section
set_option linter.all false
namespace M
open PySem (Str)
/-! ### comprehensions that change nothing, loops over things in a row -/
section
variable {r : R} {s : Src} {S : Store} {rest : Sl} {elt : E} {ds : List D}
theorem loopC_map {es : List D} (hat : ∀ i, s.at S i = some ds[i]?) (hlen : es.length = ds.length) (hlim : ds.length < lim) (he : ∀ (i : Nat) (d e : D), ds[i]? = some d → es[i]? = some e → r.ev (some d :: rest) S elt = some (e, S)) :
    ∀ (k i : Nat) (o : Option D), i + k = ds.length → loopC s (turnC r (.var 0) none elt) (k + 1) i (es.take i) (o :: rest) S = some (es, S)
  | 0, i, o, h => by
    have e : i = ds.length := by omega
    subst e
    have h1 : es.take ds.length = es := List.take_of_length_le (by omega)
    rw [loopC, hat, h1]
    simp only [Option.bind_some, List.getElem?_eq_none (Nat.le_refl _)]
    rw [if_neg (by omega)]
  | k + 1, i, o, h => by
    have hi : i < ds.length := by omega
    have h1 : ds[i]? = some ds[i] := by simp
    have h2 : es[i]? = some (es[i]'(by omega)) := by simp
    have h3 := he i _ _ h1 h2
    rw [loopC, hat, h1]
    simp only [Option.bind_some]
    rw [if_neg (by rw [List.length_take]; omega)]
    have e1 : turnC r (.var 0) none elt (o :: rest) S ds[i] = some (some (es[i]'(by omega)), some ds[i] :: rest, S) := by
      unfold turnC
      simp only [setT, List.length_cons, Nat.zero_lt_succ, if_true, List.set_cons_zero, Option.bind_some, h3, Option.map_some]
    rw [e1]
    simp only [Option.bind_some]
    rw [show es.take i ++ [es[i]'(by omega)] = es.take (i + 1) by rw [List.take_succ_eq_append_getElem (by omega)]]
    exact loopC_map hat hlen hlim he k (i + 1) _ (by omega)
theorem loopC_filter {c : E} {p : D → Bool} (hat : ∀ i, s.at S i = some ds[i]?) (hlim : ds.length < lim) (hc : ∀ (i : Nat) (d : D), ds[i]? = some d → r.tst (some d :: rest) S c = some (p d, S)) (f : D → D) (he : ∀ (i : Nat) (d : D), ds[i]? = some d → p d = true → r.ev (some d :: rest) S elt = some (f d, S)) :
    ∀ (k i : Nat) (o : Option D), i + k = ds.length → loopC s (turnC r (.var 0) (some c) elt) (k + 1) i (((ds.take i).filter p).map f) (o :: rest) S = some ((ds.filter p).map f, S)
  | 0, i, o, h => by
    have e : i = ds.length := by omega
    subst e
    rw [loopC, hat, List.take_of_length_le (Nat.le_refl _)]
    simp only [Option.bind_some, List.getElem?_eq_none (Nat.le_refl _)]
    have := List.length_filter_le p ds
    rw [if_neg (by rw [List.length_map]; omega)]
  | k + 1, i, o, h => by
    have hi : i < ds.length := by omega
    have h1 : ds[i]? = some ds[i] := by simp
    rw [loopC, hat, h1]
    simp only [Option.bind_some]
    have h5 := List.length_filter_le p (ds.take i)
    have h6 : (ds.take i).length ≤ ds.length := by rw [List.length_take]; omega
    rw [if_neg (by rw [List.length_map]; omega)]
    have h7 : ds.take (i + 1) = ds.take i ++ [ds[i]] := List.take_succ_eq_append_getElem (by omega)
    have ih := loopC_filter hat hlim hc f he k (i + 1) (some ds[i]) (by omega)
    cases hp : p ds[i] with
    | true =>
      have e1 : turnC r (.var 0) (some c) elt (o :: rest) S ds[i] = some (some (f ds[i]), some ds[i] :: rest, S) := by
        unfold turnC
        simp only [setT, List.length_cons, Nat.zero_lt_succ, if_true, List.set_cons_zero, Option.bind_some, hc i _ h1, hp, he i _ h1 hp, Option.map_some]
      rw [e1]
      simp only [Option.bind_some]
      rw [h7, List.filter_append, List.map_append] at ih
      simpa [hp] using ih
    | false =>
      have e1 : turnC r (.var 0) (some c) elt (o :: rest) S ds[i] = some (none, some ds[i] :: rest, S) := by
        unfold turnC
        simp only [setT, List.length_cons, Nat.zero_lt_succ, if_true, List.set_cons_zero, Option.bind_some, hc i _ h1, hp, Bool.false_eq_true, if_false]
      rw [e1]
      simp only [Option.bind_some]
      rw [h7, List.filter_append, List.map_append] at ih
      simpa [hp] using ih
end
theorem comp_map {r : R} {τ : Sl} {S S' : Store} {it elt : E} {sr : List (Option Nat)} {s : Src} {rest : Sl} {ds es : List D} (hsrc : src r τ S it = some (s, S')) (hat : ∀ i, s.at S' i = some ds[i]?) (hsz : s.size S' = ds.length) (hin : inner sr τ = none :: rest) (hlen : es.length = ds.length) (hlim : ds.length < lim)
    (he : ∀ (i : Nat) (d e : D), ds[i]? = some d → es[i]? = some e → r.ev (some d :: rest) S' elt = some (e, S')) : stepEv r τ S (.comp (.var 0) it none elt sr) = some (.loc S'.length, S' ++ [.lst true es]) := by
  have h := loopC_map (r := r) (s := s) (S := S') (rest := rest) (elt := elt) hat hlen hlim he ds.length 0 none (by omega)
  show ((src r τ S it).bind fun p => (loopC p.1 (turnC r (.var 0) none elt) (p.1.size p.2 + 1) 0 [] (inner sr τ) p.2).map fun q => alloc q.2 (.lst true q.1)) = _
  rw [hsrc]
  simp only [Option.bind_some, hsz, hin]
  rw [show ([] : List D) = es.take 0 by simp, h]
  rfl
theorem comp_filter {r : R} {τ : Sl} {S S' : Store} {it elt c : E} {sr : List (Option Nat)} {s : Src} {rest : Sl} {ds : List D} {p : D → Bool} (f : D → D) (hsrc : src r τ S it = some (s, S')) (hat : ∀ i, s.at S' i = some ds[i]?) (hsz : s.size S' = ds.length) (hin : inner sr τ = none :: rest) (hlim : ds.length < lim)
    (hc : ∀ (i : Nat) (d : D), ds[i]? = some d → r.tst (some d :: rest) S' c = some (p d, S')) (he : ∀ (i : Nat) (d : D), ds[i]? = some d → p d = true → r.ev (some d :: rest) S' elt = some (f d, S')) : stepEv r τ S (.comp (.var 0) it (some c) elt sr) = some (.loc S'.length, S' ++ [.lst true ((ds.filter p).map f)]) := by
  have h := loopC_filter (r := r) (s := s) (S := S') (rest := rest) (elt := elt) hat hlim hc f he ds.length 0 none (by omega)
  show ((src r τ S it).bind fun p => (loopC p.1 (turnC r (.var 0) (some c) elt) (p.1.size p.2 + 1) 0 [] (inner sr τ) p.2).map fun q => alloc q.2 (.lst true q.1)) = _
  rw [hsrc]
  simp only [Option.bind_some, hsz, hin]
  simp only [List.take_zero, List.filter_nil, List.map_nil] at h
  rw [h]
  rfl
theorem at_lst {S : Store} {q : Nat} {ds : List D} (h : listAt S q = some ds) (i : Nat) : (Src.lst q).at S i = some ds[i]? := by simp [Src.at, h]
theorem size_lst {S : Store} {q : Nat} {ds : List D} (h : listAt S q = some ds) : (Src.lst q).size S = ds.length := by simp [Src.size, h]
theorem at_tup {S : Store} {ds : List D} (i : Nat) : (Src.tup ds).at S i = some ds[i]? := rfl
theorem at_rng {S : Store} (lo : Int) (n : Nat) (i : Nat) : (Src.rng lo n).at S i = some ((List.range n).map fun (j : Nat) => D.int (lo + j))[i]? := by
  simp only [Src.at, List.getElem?_map]
  by_cases h : i < n
  · rw [if_pos h, List.getElem?_range h]; rfl
  · rw [if_neg h, List.getElem?_eq_none (by simpa using h)]; rfl
/-- a loop over things in a row, with a way out -/
theorem loop_src' {f : Sl → Store → D → Option (Out × Store)} {s : Src} {ds : List D} (P : Nat → Sl → Store → Prop) (Q : Sl → Store → Prop) (hat : ∀ i τ st, P i τ st → s.at st i = some ds[i]?)
    (hs : ∀ i τ st d, ds[i]? = some d → P i τ st → (∃ τ' st', (f τ st d = some (.nx τ', st') ∨ f τ st d = some (.ct τ', st')) ∧ P (i + 1) τ' st') ∨ ∃ τ' st', f τ st d = some (.bk τ', st') ∧ Q τ' st') :
    ∀ (k i : Nat) (τ : Sl) (st : Store), i + k = ds.length → P i τ st → ∃ τ' st', loop s f (k + 1) i τ st = some (.nx τ', st') ∧ (P ds.length τ' st' ∨ Q τ' st')
  | 0, i, τ, st, h, p => by
    have e : i = ds.length := by omega
    subst e
    refine ⟨τ, st, ?_, .inl p⟩
    rw [loop, hat _ _ _ p]
    simp [List.getElem?_eq_none (Nat.le_refl _)]
  | k + 1, i, τ, st, h, p => by
    have hi : i < ds.length := by omega
    have h1 : ds[i]? = some ds[i] := by simp
    rw [loop, hat _ _ _ p, h1]
    simp only [Option.bind_some]
    rcases hs i τ st _ h1 p with ⟨τ', st', e | e, q⟩ | ⟨τ', st', e, q⟩
    · rw [e]
      exact loop_src' P Q hat hs k (i + 1) τ' st' (by omega) q
    · rw [e]
      exact loop_src' P Q hat hs k (i + 1) τ' st' (by omega) q
    · rw [e]
      exact ⟨τ', st', rfl, .inr q⟩
theorem loop_src {f : Sl → Store → D → Option (Out × Store)} {s : Src} {ds : List D} {τ : Sl} {st : Store} (P : Nat → Sl → Store → Prop) (Q : Sl → Store → Prop) (h0 : P 0 τ st) (hsz : s.size st = ds.length) (hat : ∀ i τ st, P i τ st → s.at st i = some ds[i]?)
    (hs : ∀ i τ st d, ds[i]? = some d → P i τ st → (∃ τ' st', (f τ st d = some (.nx τ', st') ∨ f τ st d = some (.ct τ', st')) ∧ P (i + 1) τ' st') ∨ ∃ τ' st', f τ st d = some (.bk τ', st') ∧ Q τ' st') :
    ∃ τ' st', loop s f (s.size st + 1) 0 τ st = some (.nx τ', st') ∧ (P ds.length τ' st' ∨ Q τ' st') := by
  rw [hsz]
  exact loop_src' P Q hat hs ds.length 0 τ st (by omega) h0
end M
end
section
set_option linter.all false
set_option maxRecDepth 10000
set_option maxHeartbeats 2000000
namespace M
/-! ### the draw, by its value -/
def drawC (ns : List Int) (k : Int) : Int × Int := if ns = [] then (0, 1) else (ns.getD (k % (ns.length : Int)).toNat 0, k / ns.length)
def iterD : Nat → Int → Int
  | 0, c => c
  | n + 1, c => iterD n c / 10000000000
def drawF (c k j many : Int) : Int := (fun one => (fun two => (fun two' => (one * 69621 + two' * 40692 + two' / 1013) % 2147483647 % many) ((two * (one % 9973 + 1) + j) % 1000000009)) ((one * 48271 + c / 1009) % 998244353)) ((c * 7919 + k * 104729 + j * 1299709 + 31) % 1000000007)
def drawV (ns : List Int) (k j many : Int) : Int :=
  if (drawC ns k).2 = 0 ∧ 1000000000000000000 ≤ (drawC ns k).1 ∧ 0 < iterD j.toNat (drawC ns k).1 then iterD j.toNat (drawC ns k).1 % 10000000000 % many else drawF (drawC ns k).1 k j many
theorem drawV_lo (ns : List Int) (k j : Int) {many : Int} (h : 0 < many) : 0 ≤ drawV ns k j many := by
  unfold drawV
  split
  · exact Int.emod_nonneg _ (by omega)
  · exact Int.emod_nonneg _ (by omega)
theorem drawV_hi (ns : List Int) (k j : Int) {many : Int} (h : 0 < many) : drawV ns k j many < many := by
  unfold drawV
  split
  · exact Int.emod_lt_of_pos _ h
  · exact Int.emod_lt_of_pos _ h
theorem draw_eq' {fns : List Fn} {f : Nat} (hf : fns[f]? = some fDraw) (n : Nat) (st : Store) (l : Nat) (ns : List Int) (k j many : Int) (hl : listAt st l = some (ns.map D.int)) (hn : ns.length ≤ 63) (hk : 0 ≤ k) (hk2 : k < 1000) (hj : 0 ≤ j) (hj2 : j < 1000) (hm : 0 < many) :
    (run fns (n + 20)).call f [.loc l, .int k, .int j, .int many] st = some (.int (drawV ns k j many), st) := by
  generalize hC : drawC ns k = C
  obtain ⟨cell, turn⟩ := C
  have first : exs (stepEx (run fns (n + 18))) (cDraw.take 4) [some (.loc l), some (.int k), some (.int j), some (.int many), none, none, none, none, none, none] st =
      some (.nx [some (.loc l), some (.int k), some (.int j), some (.int many), some (.int cell), some (.int turn), some (.int cell), none, none, none], st) := by
    by_cases he : ns = []
    · subst he
      cases hC
      simp [cDraw, exs, stepEx, ev_s, stepEv, tst_s, stepTst, evs, bfun, bLen, hl, cmpD, setT, truth, ex_s]
    · have hp : 0 < ns.length := List.length_pos_iff.mpr he
      have h1 : 0 ≤ k % (ns.length : Int) := Int.emod_nonneg _ (by omega)
      have h2 : k % (ns.length : Int) < ns.length := Int.emod_lt_of_pos _ (by omega)
      have h5 : (k % (ns.length : Int)).toNat < ns.length := by omega
      have e1 : drawC ns k = (ns[(k % (ns.length : Int)).toNat]'h5, k / ns.length) := by
        unfold drawC
        rw [if_neg he, List.getD_eq_getElem?_getD, List.getElem?_eq_getElem h5]
        rfl
      rw [hC] at e1
      cases e1
      simp [cDraw, exs, stepEx, ev_s, stepEv, tst_s, stepTst, evs, bfun, bLen, hl, cmpD, setT, truth, ex_s, hp, binop, idxD, atI, ixN, h1, h2, h5]
      rw [if_pos (by omega)]
      simp [exs]
  have second : ∃ (o : Option D), stepEx (run fns (n + 18)) [some (.loc l), some (.int k), some (.int j), some (.int many), some (.int cell), some (.int turn), some (.int cell), none, none, none] st
      (.forr (.var 7) (.rng1 (.var 2)) [.set (.var 6) (.bin .FloorDiv (.var 6) (.bin .Pow (.lit (.int 10)) (.lit (.int 10))))]) =
      some (.nx [some (.loc l), some (.int k), some (.int j), some (.int many), some (.int cell), some (.int turn), some (.int (iterD j.toNat cell)), o, none, none], st) := by
    have hb : big j = false := by unfold big; simp; omega
    obtain ⟨τ', st', e, o, rfl, rfl⟩ := loop_rng (lo := 0) (n := j.toNat) (τ := [some (.loc l), some (.int k), some (.int j), some (.int many), some (.int cell), some (.int turn), some (.int cell), none, none, none]) (st := st)
      (f := fun τ st d => (setT (.var 7) d τ).bind fun τ' => (run fns (n + 18)).ex τ' st [.set (.var 6) (.bin .FloorDiv (.var 6) (.bin .Pow (.lit (.int 10)) (.lit (.int 10))))])
      (fun i τ s => ∃ (o : Option D), τ = [some (.loc l), some (.int k), some (.int j), some (.int many), some (.int cell), some (.int turn), some (.int (iterD i cell)), o, none, none] ∧ s = st) ⟨none, rfl, rfl⟩ (by
        rintro i τ s hi ⟨o, rfl, rfl⟩
        refine ⟨[some (.loc l), some (.int k), some (.int j), some (.int many), some (.int cell), some (.int turn), some (.int (iterD i cell / 10000000000)), some (.int (0 + i)), none, none], s, ?_, _, rfl, rfl⟩
        simp [setT, ex_s, exs, stepEx, ev_s, stepEv, binop])
    refine ⟨o, ?_⟩
    simp only [stepEx, src, ev_s, stepEv, Src.size]
    simp only [List.getElem?_cons_succ, List.getElem?_cons_zero, Option.bind_some, hb, Bool.false_eq_true, if_false]
    exact e
  obtain ⟨o, e2⟩ := second
  generalize hR : iterD j.toNat cell = rest at e2
  have body : exs (stepEx (run fns (n + 18))) cDraw [some (.loc l), some (.int k), some (.int j), some (.int many), none, none, none, none, none, none] st = some (.rt (.int (drawV ns k j many)), st) := by
    have hb : cDraw = cDraw.take 4 ++ cDraw.drop 4 := by simp
    rw [hb, exs_split _ first]
    have e3 : cDraw.drop 4 = .forr (.var 7) (.rng1 (.var 2)) [.set (.var 6) (.bin .FloorDiv (.var 6) (.bin .Pow (.lit (.int 10)) (.lit (.int 10))))] :: cDraw.drop 5 := rfl
    rw [e3, exs_cons e2]
    unfold drawV
    rw [hC]
    dsimp only
    rw [hR]
    by_cases hc : turn = 0 ∧ 1000000000000000000 ≤ cell ∧ 0 < rest
    · rw [if_pos hc]
      obtain ⟨c1, c2, c3⟩ := hc
      subst c1
      simp [cDraw, exs, stepEx, ev_s, stepEv, tst_s, stepTst, cmpD, eqD_ii, truth, binop, ex_s, c2, c3, hm]
    · rw [if_neg hc]
      have e4 : stepEx (run fns (n + 18)) [some (.loc l), some (.int k), some (.int j), some (.int many), some (.int cell), some (.int turn), some (.int rest), o, none, none] st cDrawIf = some (.nx [some (.loc l), some (.int k), some (.int j), some (.int many), some (.int cell), some (.int turn), some (.int rest), o, none, none], st) := by
        by_cases c1 : turn = 0
        · by_cases c2 : 1000000000000000000 ≤ cell
          · have c3 : ¬ 0 < rest := fun z => hc ⟨c1, c2, z⟩
            subst c1
            simp [cDrawIf, exs, stepEx, ev_s, stepEv, tst_s, stepTst, cmpD, eqD_ii, truth, binop, ex_s, c2, c3, hm]
          · subst c1
            simp [cDrawIf, exs, stepEx, ev_s, stepEv, tst_s, stepTst, cmpD, eqD_ii, truth, binop, ex_s, c2, hm]
        · simp [cDrawIf, exs, stepEx, ev_s, stepEv, tst_s, stepTst, cmpD, eqD_ii, truth, binop, ex_s, c1, hm]
      have e5 : cDraw.drop 5 = cDrawIf :: cDraw.drop 6 := rfl
      rw [e5, exs_cons e4]
      have m1 : ∀ x : Int, mulOk x 7919 = true := fun x => mulOk_r (by decide) (by decide)
      have m2 : ∀ x : Int, mulOk x 104729 = true := fun x => mulOk_r (by decide) (by decide)
      have m3 : ∀ x : Int, mulOk x 1299709 = true := fun x => mulOk_r (by decide) (by decide)
      have m4 : ∀ x : Int, mulOk x 48271 = true := fun x => mulOk_r (by decide) (by decide)
      have m5 : ∀ x y : Int, mulOk x (y % 9973 + 1) = true := fun x y => mulOk_r (by omega) (by omega)
      have m6 : ∀ x : Int, mulOk x 69621 = true := fun x => mulOk_r (by decide) (by decide)
      have m7 : ∀ x : Int, mulOk x 40692 = true := fun x => mulOk_r (by decide) (by decide)
      unfold drawF
      simp [cDraw, exs, stepEx, ev_s, stepEv, setT, binop, hm, m1, m2, m3, m4, m5, m6, m7]
  exact call_of hf rfl rfl body
theorem draw_eq {fns : List Fn} {f : Nat} (hf : fns[f]? = some fDraw) {N : Nat} (hN : 20 ≤ N) {st : Store} {l : Nat} {ns : List Int} {k j many : Int} (hl : listAt st l = some (ns.map D.int)) (hn : ns.length ≤ 63) (hk : 0 ≤ k) (hk2 : k < 1000) (hj : 0 ≤ j) (hj2 : j < 1000) (hm : 0 < many) :
    (run fns N).call f [.loc l, .int k, .int j, .int many] st = some (.int (drawV ns k j many), st) := by
  have := draw_eq' hf (N - 20) st l ns k j many hl hn hk hk2 hj hj2 hm
  rwa [show N - 20 + 20 = N by omega] at this
/-- the draws of a script that lies in a store that has grown -/
structure Drw (fns : List Fn) (g : Nat) (st : Store) (l : Nat) (ns : List Int) : Prop where
  at_ : ∀ (n : Nat) (k j many : Int) (r : Store), 0 ≤ k → k < 1000 → 0 ≤ j → j < 1000 → 0 < many → (run fns (n + 20)).call g [.loc l, .int k, .int j, .int many] (st ++ r) = some (.int (drawV ns k j many), st ++ r)
  here : ∀ (n : Nat) (k j many : Int), 0 ≤ k → k < 1000 → 0 ≤ j → j < 1000 → 0 < many → (run fns (n + 20)).call g [.loc l, .int k, .int j, .int many] st = some (.int (drawV ns k j many), st)
theorem Drw.of {fns : List Fn} {g : Nat} {st : Store} {l : Nat} {ns : List Int} (hf : fns[g]? = some fDraw) (hl : listAt st l = some (ns.map D.int)) (hn : ns.length ≤ 63) : Drw fns g st l ns :=
  ⟨fun n k j many r h2 h3 h4 h5 h6 => draw_eq hf (by omega) (listAt_old hl r) hn h2 h3 h4 h5 h6, fun n k j many h2 h3 h4 h5 h6 => draw_eq hf (by omega) hl hn h2 h3 h4 h5 h6⟩
end M
end
section
set_option linter.all false
set_option maxRecDepth 10000
set_option maxHeartbeats 2000000
namespace M
/-! ### a term -/
def cTerm (g : Nat) : List S := [
  .set (.var 2) (.call g [(.var 0), (.var 1), (.lit (.int 5)), (.lit (.int 400))]),
  .ret (.idx (.lst [(.bin .Add (.lit (.int 1)) (.var 2)), (.bin .Add (.lit (.int 1)) (.bin .Mod (.var 2) (.lit (.int 4)))), (.bin .Add (.lit (.int 4)) (.bin .Mod (.var 2) (.lit (.int 50)))), (.bin .Add (.lit (.int 4)) (.bin .Mod (.var 2) (.lit (.int 50))))]) (.call g [(.var 0), (.var 1), (.lit (.int 4)), (.lit (.int 4))]))]
def fTerm (g : Nat) : Fn := ⟨2, 3, cTerm g⟩
theorem term_ok {fns : List Fn} {g f : Nat} (hg : fns[g]? = some fDraw) (hf : fns[f]? = some (fTerm g)) {N : Nat} (hN : 30 ≤ N) {st : Store} {l : Nat} {ns : List Int} {k : Int} (hl : listAt st l = some (ns.map D.int)) (hn : ns.length ≤ 63) (hk : 0 ≤ k) (hk2 : k < 1000) :
    ∃ t r, 1 ≤ t ∧ t ≤ 400 ∧ (run fns N).call f [.loc l, .int k] st = some (.int t, st ++ r) := by
  have dr := Drw.of hg hl hn
  have a0 := drawV_lo ns k 5 (many := 400) (by omega)
  have a1 := drawV_hi ns k 5 (many := 400) (by omega)
  have b0 := drawV_lo ns k 4 (many := 4) (by omega)
  have b1 := drawV_hi ns k 4 (many := 4) (by omega)
  suffices h : ∃ t r, 1 ≤ t ∧ t ≤ 400 ∧ exs (stepEx (run fns 28)) (cTerm g) [some (.loc l), some (.int k), none] st = some (.rt (.int t), st ++ r) by
    obtain ⟨t, r, t0, t1, e⟩ := h
    exact ⟨t, r, t0, t1, call_mono (call_of (n := 28) hf rfl rfl e) hN⟩
  generalize hA : drawV ns k 5 400 = A at *
  have hB : drawV ns k 4 4 = 0 ∨ drawV ns k 4 4 = 1 ∨ drawV ns k 4 4 = 2 ∨ drawV ns k 4 4 = 3 := by omega
  refine ⟨[1 + A, 1 + A % 4, 4 + A % 50, 4 + A % 50].getD (drawV ns k 4 4).toNat 0, [.lst true [.int (1 + A), .int (1 + A % 4), .int (4 + A % 50), .int (4 + A % 50)]], ?_, ?_, ?_⟩
  · rcases hB with h | h | h | h <;> rw [h] <;> simp <;> omega
  · rcases hB with h | h | h | h <;> rw [h] <;> simp <;> omega
  · rcases hB with h | h | h | h <;> simp [cTerm, hk, hk2, exs, stepEx, ev_s, stepEv, evs, dr.here, dr.at_, hA, setT, binop, lim, alloc, h, idxD, listAt_new, atI, ixN]
end M
end
section
set_option linter.all false
set_option maxRecDepth 10000
set_option maxHeartbeats 4000000
namespace M
/-! ### a place in the midst of a store -/
theorem set_mid (A r : Store) (c c' : Cell) : (A ++ c :: r).set A.length c' = A ++ c' :: r := by
  rw [List.set_append_right _ _ (Nat.le_refl _)]; simp
theorem listAt_mid (A r : Store) (w : Bool) (ds : List D) : listAt (A ++ .lst w ds :: r) A.length = some ds := by simp [listAt]
theorem wlistAt_mid (A r : Store) (ds : List D) : wlistAt (A ++ .lst true ds :: r) A.length = some ds := by simp [wlistAt]
theorem atI_end {α : Type} (xs : List α) (x : α) : atI (xs ++ [x]) (-1) = some x := by
  have h1 : -((xs.length : Int) + 1) ≤ -1 := by omega
  have h2 : ((-1 : Int) + ((xs.length : Int) + 1)).toNat = xs.length := by omega
  simp [atI, ixN, h1, h2]
theorem at2_0 {α : Type} (a b : α) : atI [a, b] 0 = some a := rfl
theorem at2_1 {α : Type} (a b : α) : atI [a, b] 1 = some b := rfl
theorem at3_0 {α : Type} (a b c : α) : atI [a, b, c] 0 = some a := rfl
theorem at3_1 {α : Type} (a b c : α) : atI [a, b, c] 1 = some b := rfl
theorem at3_2 {α : Type} (a b c : α) : atI [a, b, c] 2 = some c := rfl
/-! ### a size -/
def cSize (g : Nat) : List S := [
  .set (.var 2) (.bin .Add (.lit (.int 1)) (.call g [(.var 0), (.var 1), (.lit (.int 0)), (.lit (.int 6))])),
  .set (.var 3) (.bin .Add (.lit (.int 1)) (.call g [(.var 0), (.var 1), (.lit (.int 1)), (.lit (.int 6))])),
  .set (.var 4) (.call g [(.var 0), (.var 1), (.lit (.int 2)), (.lit (.int 6))]),
  .set (.var 5) (.lst [(.tup [(.lit (.int 24)), (.bin .Add (.lit (.int 1)) (.bin .FloorDiv (.var 3) (.lit (.int 3)))), (.bin .FloorDiv (.var 4) (.lit (.int 2)))]), (.tup [(.bin .Add (.lit (.int 1)) (.bin .FloorDiv (.var 2) (.lit (.int 3)))), (.lit (.int 24)), (.bin .FloorDiv (.var 4) (.lit (.int 2)))])]),
  .set (.var 5) (.bin .Add (.var 5) (.lst [(.tup [(.bin .Add (.lit (.int 1)) (.bin .FloorDiv (.var 2) (.lit (.int 3)))), (.bin .Add (.lit (.int 1)) (.bin .FloorDiv (.var 3) (.lit (.int 3)))), (.lit (.int 12))]), (.tup [(.var 2), (.var 3), (.var 4)])])),
  .ret (.idx (.var 5) (.bcall .min [(.lit (.int 3)), (.call g [(.var 0), (.var 1), (.lit (.int 3)), (.lit (.int 12))])]))]
def fSize (g : Nat) : Fn := ⟨2, 6, cSize g⟩
theorem size_ok {fns : List Fn} {g f : Nat} (hg : fns[g]? = some fDraw) (hf : fns[f]? = some (fSize g)) {N : Nat} (hN : 30 ≤ N) {st : Store} {l : Nat} {ns : List Int} {k : Int} (hl : listAt st l = some (ns.map D.int)) (hn : ns.length ≤ 63) (hk : 0 ≤ k) (hk2 : k < 1000) :
    ∃ (w t e : Int) (r : Store), 1 ≤ w ∧ w ≤ 24 ∧ 1 ≤ t ∧ t ≤ 24 ∧ 0 ≤ e ∧ e ≤ 12 ∧ (run fns N).call f [.loc l, .int k] st = some (.tup [.int w, .int t, .int e], st ++ r) := by
  have dr := Drw.of hg hl hn
  have p1 := drawV_lo ns k 0 (many := 6) (by omega)
  have q1 := drawV_hi ns k 0 (many := 6) (by omega)
  have p2 := drawV_lo ns k 1 (many := 6) (by omega)
  have q2 := drawV_hi ns k 1 (many := 6) (by omega)
  have p3 := drawV_lo ns k 2 (many := 6) (by omega)
  have q3 := drawV_hi ns k 2 (many := 6) (by omega)
  have p4 := drawV_lo ns k 3 (many := 12) (by omega)
  have q4 := drawV_hi ns k 3 (many := 12) (by omega)
  generalize h1 : drawV ns k 0 6 = r1 at *
  generalize h2 : drawV ns k 1 6 = r2 at *
  generalize h3 : drawV ns k 2 6 = r3 at *
  generalize h4 : drawV ns k 3 12 = r4 at *
  let c1 : Cell := .lst true [.tup [.int 24, .int (1 + (1 + r2) / 3), .int (r3 / 2)], .tup [.int (1 + (1 + r1) / 3), .int 24, .int (r3 / 2)]]
  let c2 : Cell := .lst true [.tup [.int (1 + (1 + r1) / 3), .int (1 + (1 + r2) / 3), .int 12], .tup [.int (1 + r1), .int (1 + r2), .int r3]]
  let c3 : Cell := .lst true [.tup [.int 24, .int (1 + (1 + r2) / 3), .int (r3 / 2)], .tup [.int (1 + (1 + r1) / 3), .int 24, .int (r3 / 2)], .tup [.int (1 + (1 + r1) / 3), .int (1 + (1 + r2) / 3), .int 12], .tup [.int (1 + r1), .int (1 + r2), .int r3]]
  have ix : ∃ w t e : Int, 1 ≤ w ∧ w ≤ 24 ∧ 1 ≤ t ∧ t ≤ 24 ∧ 0 ≤ e ∧ e ≤ 12 ∧ idxD (st ++ [c1, c2, c3]) (.loc (st.length + 2)) (.int (if r4 < 3 then r4 else 3)) = some (.tup [.int w, .int t, .int e]) := by
    have : r4 = 0 ∨ r4 = 1 ∨ r4 = 2 ∨ 3 ≤ r4 := by omega
    rcases this with h | h | h | h
    · refine ⟨24, 1 + (1 + r2) / 3, r3 / 2, by omega, by omega, by omega, by omega, by omega, by omega, ?_⟩
      subst h; simp [idxD, listAt, c1, c2, c3, atI, ixN]
    · refine ⟨1 + (1 + r1) / 3, 24, r3 / 2, by omega, by omega, by omega, by omega, by omega, by omega, ?_⟩
      subst h; simp [idxD, listAt, c1, c2, c3, atI, ixN]
    · refine ⟨1 + (1 + r1) / 3, 1 + (1 + r2) / 3, 12, by omega, by omega, by omega, by omega, by omega, by omega, ?_⟩
      subst h; simp [idxD, listAt, c1, c2, c3, atI, ixN]
    · refine ⟨1 + r1, 1 + r2, r3, by omega, by omega, by omega, by omega, by omega, by omega, ?_⟩
      rw [if_neg (by omega)]; simp [idxD, listAt, c1, c2, c3, atI, ixN]
  obtain ⟨w, t, e, hw, hw2, ht, ht2, he, he2, eix⟩ := ix
  refine ⟨w, t, e, [c1, c2, c3], hw, hw2, ht, ht2, he, he2, call_mono (call_of (n := 28) (F := fSize g) hf rfl rfl ?_) hN⟩
  show exs (stepEx (run fns 28)) (cSize g) [some (.loc l), some (.int k), none, none, none, none] st = _
  unfold cSize
  rw [exs_cons (τ' := [some (.loc l), some (.int k), some (.int (1 + r1)), none, none, none]) (s' := st) (by simp [stepEx, ev_s, stepEv, evs, dr.here, hk, hk2, h1, binop, setT])]
  rw [exs_cons (τ' := [some (.loc l), some (.int k), some (.int (1 + r1)), some (.int (1 + r2)), none, none]) (s' := st) (by simp [stepEx, ev_s, stepEv, evs, dr.here, hk, hk2, h2, binop, setT])]
  rw [exs_cons (τ' := [some (.loc l), some (.int k), some (.int (1 + r1)), some (.int (1 + r2)), some (.int r3), none]) (s' := st) (by simp [stepEx, ev_s, stepEv, evs, dr.here, hk, hk2, h3, binop, setT])]
  rw [exs_cons (τ' := [some (.loc l), some (.int k), some (.int (1 + r1)), some (.int (1 + r2)), some (.int r3), some (.loc st.length)]) (s' := st ++ [c1]) (by simp [stepEx, ev_s, stepEv, evs, binop, setT, lim, alloc, c1])]
  rw [exs_cons (τ' := [some (.loc l), some (.int k), some (.int (1 + r1)), some (.int (1 + r2)), some (.int r3), some (.loc (st.length + 2))]) (s' := st ++ [c1, c2, c3]) (by simp [stepEx, ev_s, stepEv, evs, binop, setT, lim, alloc, wlistAt, c1, c2, c3])]
  refine exs_ret ?_
  have e4 := dr.at_ 5 k 3 12 [c1, c2, c3] hk hk2 (by omega) (by omega) (by omega)
  rw [h4] at e4
  simp only [stepEx, ev_s, stepEv, evs, List.getElem?_cons_succ, List.getElem?_cons_zero, Option.bind_some, e4, bfun, bMin, eix, Option.map_some]
theorem call_up {fns : List Fn} {n f : Nat} {ds : List D} {st : Store} {x : D × Store} (h : (run fns n).call f ds st = some x) (k : Nat) : (run fns (k + n)).call f ds st = some x := call_mono h (by omega)
end M
end
section
set_option linter.all false
set_option maxRecDepth 10000
set_option maxHeartbeats 4000000
namespace M
/-! ### comprehensions over whatever is walked, with whatever target -/
theorem loopC_gen {r : R} {s : Src} {S : Store} {t : T} {test : Option E} {elt : E} {ds : List D} {os : List (Option D)} (P : Sl → Prop) (hat : ∀ i, s.at S i = some ds[i]?) (hlen : os.length = ds.length) (hlim : ds.length < lim)
    (he : ∀ (i : Nat) (d : D) (o : Option D) (τ : Sl), ds[i]? = some d → os[i]? = some o → P τ → ∃ τ', turnC r t test elt τ S d = some (o, τ', S) ∧ P τ') :
    ∀ (k i : Nat) (τ : Sl), i + k = ds.length → P τ → loopC s (turnC r t test elt) (k + 1) i ((os.take i).filterMap id) τ S = some (os.filterMap id, S)
  | 0, i, τ, h, p => by
    have e : i = ds.length := by omega
    subst e
    rw [loopC, hat, List.getElem?_eq_none (Nat.le_refl _)]
    simp only [Option.bind_some]
    rw [← hlen, List.take_length]
    have : (os.filterMap id).length ≤ os.length := List.length_filterMap_le _ _
    rw [if_neg (by omega)]
  | k + 1, i, τ, h, p => by
    have hi : i < ds.length := by omega
    have hi2 : i < os.length := by omega
    have h1 : ds[i]? = some ds[i] := by simp
    have h2 : os[i]? = some os[i] := by simp
    obtain ⟨τ', e, q⟩ := he i _ _ τ h1 h2 p
    have ih := loopC_gen P hat hlen hlim he k (i + 1) τ' (by omega) q
    rw [loopC, hat, h1]
    simp only [Option.bind_some]
    have hl : ((os.take i).filterMap id).length < lim := by
      have a1 : ((os.take i).filterMap id).length ≤ (os.take i).length := List.length_filterMap_le _ _
      have a2 : (os.take i).length ≤ os.length := by rw [List.length_take]; omega
      omega
    rw [if_neg (by omega), e]
    simp only [Option.bind_some]
    rw [List.take_add_one, h2, List.filterMap_append] at ih
    cases ho : os[i] with
    | none => rw [ho] at ih; simpa using ih
    | some x => rw [ho] at ih; simpa using ih
theorem comp_gen {r : R} {τ : Sl} {S S' : Store} {t : T} {it elt : E} {test : Option E} {sr : List (Option Nat)} {s : Src} {ds : List D} {os : List (Option D)} (P : Sl → Prop) (hsrc : src r τ S it = some (s, S')) (hat : ∀ i, s.at S' i = some ds[i]?) (hsz : s.size S' = ds.length) (hlen : os.length = ds.length) (hlim : ds.length < lim) (h0 : P (inner sr τ))
    (he : ∀ (i : Nat) (d : D) (o : Option D) (τ : Sl), ds[i]? = some d → os[i]? = some o → P τ → ∃ τ', turnC r t test elt τ S' d = some (o, τ', S') ∧ P τ') : stepEv r τ S (.comp t it test elt sr) = some (.loc S'.length, S' ++ [.lst true (os.filterMap id)]) := by
  have h := loopC_gen P hat hlen hlim he ds.length 0 (inner sr τ) (by omega) h0
  show ((src r τ S it).bind fun p => (loopC p.1 (turnC r t test elt) (p.1.size p.2 + 1) 0 [] (inner sr τ) p.2).map fun q => alloc q.2 (.lst true q.1)) = _
  rw [hsrc]
  simp only [Option.bind_some, hsz]
  simp only [List.take_zero, List.filterMap_nil] at h
  rw [h]
  rfl
/-- a zip of as many as its shorter one -/
def pairsD (xs ys : List D) : List D := (xs.zip ys).map fun p => .tup [p.1, p.2]
theorem pairsD_at (xs ys : List D) (i : Nat) : (pairsD xs ys)[i]? = pairAt xs ys i := by
  unfold pairsD pairAt
  rw [List.getElem?_map, List.zip_eq_zipWith, List.getElem?_zipWith]
  cases xs[i]? with
  | none => rfl
  | some x => cases ys[i]? with
    | none => rfl
    | some y => rfl
theorem filterMap_somes {α : Type} (l : List α) : (l.map some).filterMap id = l := by
  induction l with
  | nil => rfl
  | cons a r ih => simp
end M
end
section
set_option linter.all false
set_option maxRecDepth 10000
set_option maxHeartbeats 4000000
namespace M
open PySem (Str)
/-! ### a loop with ways out and back -/
theorem loop_any' {f : Sl → Store → D → Option (Out × Store)} {s : Src} {ds : List D} (P : Nat → Sl → Store → Prop) (Q : Sl → Store → Prop) (Rt : D → Store → Prop) (hat : ∀ i τ st, P i τ st → s.at st i = some ds[i]?)
    (hs : ∀ i τ st d, ds[i]? = some d → P i τ st → (∃ τ' st', (f τ st d = some (.nx τ', st') ∨ f τ st d = some (.ct τ', st')) ∧ P (i + 1) τ' st') ∨ (∃ τ' st', f τ st d = some (.bk τ', st') ∧ Q τ' st') ∨ ∃ v st', f τ st d = some (.rt v, st') ∧ Rt v st') :
    ∀ (k i : Nat) (τ : Sl) (st : Store), i + k = ds.length → P i τ st → (∃ τ' st', loop s f (k + 1) i τ st = some (.nx τ', st') ∧ (P ds.length τ' st' ∨ Q τ' st')) ∨ ∃ v st', loop s f (k + 1) i τ st = some (.rt v, st') ∧ Rt v st'
  | 0, i, τ, st, h, p => by
    have e : i = ds.length := by omega
    subst e
    refine .inl ⟨τ, st, ?_, .inl p⟩
    rw [loop, hat _ _ _ p]
    simp [List.getElem?_eq_none (Nat.le_refl _)]
  | k + 1, i, τ, st, h, p => by
    have hi : i < ds.length := by omega
    have h1 : ds[i]? = some ds[i] := by simp
    rw [loop, hat _ _ _ p, h1]
    simp only [Option.bind_some]
    rcases hs i τ st _ h1 p with ⟨τ', st', e | e, q⟩ | ⟨τ', st', e, q⟩ | ⟨v, st', e, q⟩
    · rw [e]
      exact loop_any' P Q Rt hat hs k (i + 1) τ' st' (by omega) q
    · rw [e]
      exact loop_any' P Q Rt hat hs k (i + 1) τ' st' (by omega) q
    · rw [e]
      exact .inl ⟨τ', st', rfl, .inr q⟩
    · rw [e]
      exact .inr ⟨v, st', rfl, q⟩
theorem loop_any {f : Sl → Store → D → Option (Out × Store)} {s : Src} {ds : List D} {τ : Sl} {st : Store} (P : Nat → Sl → Store → Prop) (Q : Sl → Store → Prop) (Rt : D → Store → Prop) (h0 : P 0 τ st) (hsz : s.size st = ds.length) (hat : ∀ i τ st, P i τ st → s.at st i = some ds[i]?)
    (hs : ∀ i τ st d, ds[i]? = some d → P i τ st → (∃ τ' st', (f τ st d = some (.nx τ', st') ∨ f τ st d = some (.ct τ', st')) ∧ P (i + 1) τ' st') ∨ (∃ τ' st', f τ st d = some (.bk τ', st') ∧ Q τ' st') ∨ ∃ v st', f τ st d = some (.rt v, st') ∧ Rt v st') :
    (∃ τ' st', loop s f (s.size st + 1) 0 τ st = some (.nx τ', st') ∧ (P ds.length τ' st' ∨ Q τ' st')) ∨ ∃ v st', loop s f (s.size st + 1) 0 τ st = some (.rt v, st') ∧ Rt v st' := by
  rw [hsz]
  exact loop_any' P Q Rt hat hs ds.length 0 τ st (by omega) h0
/-! ### texts as rows of signs -/
def mk (cs : List Nat) : Str := ⟨cs.toArray⟩
def sgn (c : Nat) : D := .str ⟨#[c]⟩
theorem mk_cps (cs : List Nat) : (mk cs).cps.toList = cs := rfl
theorem mk_len (cs : List Nat) : (mk cs).length = cs.length := by simp [mk, Str.length]
theorem mk_app (a b : List Nat) : mk a ++ mk b = mk (a ++ b) := by
  show (⟨a.toArray ++ b.toArray⟩ : Str) = ⟨(a ++ b).toArray⟩
  simp
theorem mk_inj {a b : List Nat} (h : mk a = mk b) : a = b := by
  have := congrArg (fun z : Str => z.cps.toList) h
  exact this
theorem mk_beq (a b : List Nat) : (mk a == mk b) = (a == b) := by
  rw [Bool.eq_iff_iff, beq_iff_eq, beq_iff_eq]
  exact ⟨mk_inj, fun h => by rw [h]⟩
theorem mk_ascii {cs : List Nat} (h : ∀ c ∈ cs, c < 128) : (mk cs).cps.all (· < 128) = true := by
  simp only [mk]
  rw [← Array.all_toList]
  simpa using h
theorem oneOf_sgn (c : Nat) : oneOf ⟨#[c]⟩ = some c := rfl
theorem join_singles : ∀ cs : List Nat, Str.join (mk []) (cs.map fun c => (⟨#[c]⟩ : Str)) = mk cs
  | [] => rfl
  | [c] => rfl
  | c :: d :: r => by
    have ih := join_singles (d :: r)
    show (⟨#[c]⟩ : Str) ++ mk [] ++ Str.join (mk []) ((d :: r).map fun c => (⟨#[c]⟩ : Str)) = _
    rw [ih]
    show mk [c] ++ mk [] ++ mk (d :: r) = _
    rw [mk_app, mk_app]
    rfl
theorem asStrs_map : ∀ zs : List Str, asStrs (zs.map D.str) = some zs
  | [] => rfl
  | z :: r => by
    show (asStrs (r.map D.str)).map (z :: ·) = _
    rw [asStrs_map r]
    rfl
theorem at_str (z : Str) (S : Store) (i : Nat) : (Src.str z).at S i = some ((z.cps.toList.map sgn)[i]?) := rfl
theorem atI_in {α : Type} {l : List α} {i : Int} (h0 : 0 ≤ i) (h1 : i < l.length) : ∃ c, c ∈ l ∧ atI l i = some c := by
  have h2 : i.toNat < l.length := by omega
  exact ⟨l[i.toNat], List.getElem_mem h2, by simp [atI, ixN, h0, h1, h2]⟩
theorem ev_and_t {r : R} {τ : Sl} {st st' : Store} {a b : E} (h : r.ev τ st a = some (.bl true, st')) : stepEv r τ st (.and a b) = r.ev τ st' b := by simp only [stepEv, h, Option.bind_some]
theorem ev_and_f {r : R} {τ : Sl} {st st' : Store} {a b : E} (h : r.ev τ st a = some (.bl false, st')) : stepEv r τ st (.and a b) = some (.bl false, st') := by simp only [stepEv, h, Option.bind_some]
theorem ev_or_f {r : R} {τ : Sl} {st st' : Store} {a b : E} (h : r.ev τ st a = some (.bl false, st')) : stepEv r τ st (.or a b) = r.ev τ st' b := by simp only [stepEv, h, Option.bind_some]
theorem ev_or_t {r : R} {τ : Sl} {st st' : Store} {a b : E} (h : r.ev τ st a = some (.bl true, st')) : stepEv r τ st (.or a b) = some (.bl true, st') := by simp only [stepEv, h, Option.bind_some]
theorem at0 {α : Type} (a : α) (r : List α) : atI (a :: r) 0 = some a := by simp [atI, ixN]
end M
end
section
set_option linter.all false
set_option maxRecDepth 10000
set_option maxHeartbeats 4000000
namespace K06
open M
/-- 0: all_figures(text); slots 0:text -/
def b_all_figures : List M.S := [
  .ret (.and (.cmp .NotEq (.var 0) (.lit (.str (PySem.Str.ofString "")))) (.bcall .all [(.comp (.var 0) (.var 0) none (.cmp .In (.var 0) (.glo (PySem.Str.ofString "FIGURES") (.str (PySem.Str.ofString "0123456789")))) [none])]))]
def f_all_figures : M.Fn := ⟨1, 1, b_all_figures⟩
/-- 1: number(text); slots 0:text -/
def b_number : List M.S := [
  .ite (.not (.call 0 [(.var 0)])) [.ret (.lit .non)] [],
  .ite (.and (.cmp .Eq (.idx (.var 0) (.lit (.int 0))) (.lit (.str (PySem.Str.ofString "0")))) (.cmp .NotEq (.var 0) (.lit (.str (PySem.Str.ofString "0"))))) [.ret (.lit .non)] [],
  .ret (.bcall .int [(.var 0)])]
def f_number : M.Fn := ⟨1, 1, b_number⟩
/-- 2: _law_draw(_law_script, _law_k, _law_j, _law_many); slots 0:_law_script 1:_law_k 2:_law_j 3:_law_many 4:_law_cell 5:_law_turn 6:_law_rest 7:_law_step 8:_law_one 9:_law_two -/
def b_law_draw : List M.S := [
  .set (.var 4) (.lit (.int 0)),
  .set (.var 5) (.lit (.int 1)),
  .ite (.cmp .Gt (.bcall .len [(.var 0)]) (.lit (.int 0))) [.set (.var 4) (.idx (.var 0) (.bin .Mod (.var 1) (.bcall .len [(.var 0)]))), .set (.var 5) (.bin .FloorDiv (.var 1) (.bcall .len [(.var 0)]))] [],
  .set (.var 6) (.var 4),
  .forr (.var 7) (.rng1 (.var 2)) [.set (.var 6) (.bin .FloorDiv (.var 6) (.bin .Pow (.lit (.int 10)) (.lit (.int 10))))],
  .ite (.and (.cmp .Eq (.var 5) (.lit (.int 0))) (.and (.cmp .GtE (.var 4) (.bin .Pow (.lit (.int 10)) (.lit (.int 18)))) (.cmp .Gt (.var 6) (.lit (.int 0))))) [.ret (.bin .Mod (.bin .Mod (.var 6) (.bin .Pow (.lit (.int 10)) (.lit (.int 10)))) (.var 3))] [],
  .set (.var 8) (.bin .Mod (.bin .Add (.bin .Add (.bin .Add (.bin .Mult (.var 4) (.lit (.int 7919))) (.bin .Mult (.var 1) (.lit (.int 104729)))) (.bin .Mult (.var 2) (.lit (.int 1299709)))) (.lit (.int 31))) (.lit (.int 1000000007))),
  .set (.var 9) (.bin .Mod (.bin .Add (.bin .Mult (.var 8) (.lit (.int 48271))) (.bin .FloorDiv (.var 4) (.lit (.int 1009)))) (.lit (.int 998244353))),
  .set (.var 9) (.bin .Mod (.bin .Add (.bin .Mult (.var 9) (.bin .Add (.bin .Mod (.var 8) (.lit (.int 9973))) (.lit (.int 1)))) (.var 2)) (.lit (.int 1000000009))),
  .ret (.bin .Mod (.bin .Mod (.bin .Add (.bin .Add (.bin .Mult (.var 8) (.lit (.int 69621))) (.bin .Mult (.var 9) (.lit (.int 40692)))) (.bin .FloorDiv (.var 9) (.lit (.int 1013)))) (.lit (.int 2147483647))) (.var 3))]
def f_law_draw : M.Fn := ⟨4, 10, b_law_draw⟩
/-- 3: _law_same(_law_found, _law_due); slots 0:_law_found 1:_law_due 2:_law_like -/
def b_law_same : List M.S := [
  .ite (.isi (.var 1) [.tup, .lst] true) [.ite (.or (.not (.isi (.var 0) [.tup, .lst] true)) (.cmp .NotEq (.bcall .len [(.var 0)]) (.bcall .len [(.var 1)]))) [.ret (.lit (.bl false))] [], .set (.var 2) (.bcall .all [(.comp (.var 0) (.rng1 (.bcall .len [(.var 1)])) none (.call 3 [(.idx (.var 1) (.var 0)), (.idx (.var 2) (.var 0))]) [none, some 0, some 1])]), .ret (.and (.var 2) (.cmp .Eq (.isi (.var 0) [.tup] false) (.isi (.var 1) [.tup] false)))] [],
  .set (.var 2) (.cmp .Eq (.isi (.var 0) [.int] false) (.isi (.var 1) [.int] false)),
  .set (.var 2) (.and (.var 2) (.cmp .Eq (.isi (.var 0) [.bl] false) (.isi (.var 1) [.bl] false))),
  .ret (.and (.var 2) (.and (.cmp .Eq (.isi (.var 0) [.str] false) (.isi (.var 1) [.str] false)) (.cmp .Eq (.var 0) (.var 1))))]
def f_law_same : M.Fn := ⟨2, 3, b_law_same⟩
/-- 4: _law_number(_law_word); slots 0:_law_word 1:_law_many 2:_law_sign 3:_law_at -/
def b_law_number : List M.S := [
  .ite (.or (.cmp .Eq (.var 0) (.lit (.str (PySem.Str.ofString "")))) (.and (.cmp .Gt (.bcall .len [(.var 0)]) (.lit (.int 1))) (.cmp .Eq (.idx (.var 0) (.lit (.int 0))) (.lit (.str (PySem.Str.ofString "0")))))) [.ret (.lit .non)] [],
  .set (.var 1) (.lit (.int 0)),
  .forr (.var 2) (.var 0) [.set (.var 3) (.meth (.lit (.str (PySem.Str.ofString "0123456789"))) .find [(.var 2)]), .ite (.cmp .Lt (.var 3) (.lit (.int 0))) [.ret (.lit .non)] [], .set (.var 1) (.bin .Add (.bin .Mult (.var 1) (.lit (.int 10))) (.var 3))],
  .ret (.var 1)]
def f_law_number : M.Fn := ⟨1, 4, b_law_number⟩
/-- 5: law(_law_script); slots 0:_law_script 1:_law_size 2:_law_odd 3:_law_signs 4:_law_k 5:_law_sign 6:_law_text 7:_law_at -/
def b_law : List M.S := [
  .set (.var 1) (.call 2 [(.var 0), (.lit (.int 0)), (.lit (.int 0)), (.idx (.lst [(.lit (.int 4)), (.lit (.int 12)), (.lit (.int 41))]) (.call 2 [(.var 0), (.lit (.int 0)), (.lit (.int 1)), (.lit (.int 3))]))]),
  .set (.var 2) (.call 2 [(.var 0), (.lit (.int 0)), (.lit (.int 2)), (.lit (.int 3))]),
  .set (.var 3) (.lst []),
  .forr (.var 4) (.rng1 (.var 1)) [.set (.var 5) (.idx (.lit (.str (PySem.Str.ofString "0123456789"))) (.call 2 [(.var 0), (.bin .Add (.lit (.int 1)) (.var 4)), (.lit (.int 0)), (.lit (.int 10))])), .ite (.and (.cmp .Eq (.var 2) (.lit (.int 0))) (.cmp .Eq (.call 2 [(.var 0), (.bin .Add (.lit (.int 1)) (.var 4)), (.lit (.int 1)), (.lit (.int 6))]) (.lit (.int 0)))) [.set (.var 5) (.idx (.lit (.str (PySem.Str.ofString "-+ _.,aEx~\n0123456789"))) (.call 2 [(.var 0), (.bin .Add (.lit (.int 1)) (.var 4)), (.lit (.int 2)), (.lit (.int 21))]))] [], .expr (.meth (.var 3) .append [(.var 5)])],
  .set (.var 6) (.meth (.lit (.str (PySem.Str.ofString ""))) .join [(.var 3)]),
  .ite (.cmp .Eq (.call 2 [(.var 0), (.lit (.int 0)), (.lit (.int 3)), (.lit (.int 4))]) (.lit (.int 0))) [.set (.var 6) (.bin .Add (.lit (.str (PySem.Str.ofString "0"))) (.sli (.var 6) (some (.lit (.int 1))) none))] [],
  .ite (.and (.cmp .Eq (.call 2 [(.var 0), (.lit (.int 0)), (.lit (.int 4)), (.lit (.int 6))]) (.lit (.int 0))) (.cmp .Gt (.var 1) (.lit (.int 0)))) [.set (.var 7) (.call 2 [(.var 0), (.lit (.int 0)), (.lit (.int 5)), (.var 1)]), .set (.var 6) (.bin .Add (.bin .Add (.sli (.var 6) none (some (.var 7))) (.idx (.lit (.str (PySem.Str.ofString "-+ _\n~"))) (.call 2 [(.var 0), (.lit (.int 0)), (.lit (.int 6)), (.lit (.int 6))]))) (.sli (.var 6) (some (.bin .Add (.var 7) (.lit (.int 1)))) none))] [],
  .ret (.call 3 [(.call 1 [(.var 6)]), (.call 4 [(.var 6)])])]
def f_law : M.Fn := ⟨1, 8, b_law⟩
def fns : List M.Fn := [f_all_figures, f_number, f_law_draw, f_law_same, f_law_number, f_law]
theorem hDraw : fns[2]? = some fDraw := rfl
theorem hSame : fns[3]? = some (fSame 3) := rfl
theorem t0 : PySem.Str.ofString "0" = mk [48] := by decide +kernel
theorem te : PySem.Str.ofString "" = mk [] := by decide +kernel
def digs : List Nat := [48, 49, 50, 51, 52, 53, 54, 55, 56, 57]
def odds : List Nat := [45, 43, 32, 95, 46, 44, 97, 69, 120, 126, 10, 48, 49, 50, 51, 52, 53, 54, 55, 56, 57]
def odd6 : List Nat := [45, 43, 32, 95, 10, 126]
theorem td : PySem.Str.ofString "0123456789" = mk digs := by decide +kernel
theorem to : PySem.Str.ofString "-+ _.,aEx~\n0123456789" = mk odds := by decide +kernel
theorem t6 : PySem.Str.ofString "-+ _\n~" = mk odd6 := by decide +kernel
theorem fig_in (c : Nat) : decide (c ∈ digs) = isFig c := by
  unfold isFig
  rw [Bool.eq_iff_iff]
  simp only [digs, List.mem_cons, List.not_mem_nil, or_false, decide_eq_true_eq, Bool.and_eq_true]
  omega
theorem find_fig {c : Nat} (h : isFig c = true) : findC digs c = ((c - 48 : Nat) : Int) := by
  unfold isFig at h
  simp only [Bool.and_eq_true, decide_eq_true_eq] at h
  have : c = 48 ∨ c = 49 ∨ c = 50 ∨ c = 51 ∨ c = 52 ∨ c = 53 ∨ c = 54 ∨ c = 55 ∨ c = 56 ∨ c = 57 := by omega
  rcases this with rfl | rfl | rfl | rfl | rfl | rfl | rfl | rfl | rfl | rfl <;> rfl
theorem find_no {c : Nat} (h : isFig c = false) : findC digs c = -1 := by
  have hn : c ∉ digs := fun hc => by
    have := fig_in c
    rw [h, decide_eq_true hc] at this
    cases this
  unfold findC
  have : digs.findIdx? (· == c) = none := by
    rw [List.findIdx?_eq_none_iff]
    intro x hx
    by_cases e : x = c
    · subst e; exact absurd hx hn
    · simpa using e
  rw [this]
def numV (cs : List Nat) : D := if cs ≠ [] ∧ cs.all isFig = true ∧ ¬ (cs.head? = some 48 ∧ cs ≠ [48]) then .int (figVal cs : Nat) else .non
theorem figs_ok (n : Nat) (st : Store) (cs : List Nat) (ha : ∀ c ∈ cs, c < 128) (hl : cs.length < 1000) : ∃ r, (run fns (n + 20)).call 0 [.str (mk cs)] st = some (.bl (!cs.isEmpty && cs.all isFig), st ++ r) := by
  suffices h : ∃ r, exs (stepEx (run fns (n + 18))) b_all_figures [some (.str (mk cs))] st = some (.rt (.bl (!cs.isEmpty && cs.all isFig)), st ++ r) by
    obtain ⟨r, e⟩ := h
    exact ⟨r, call_of (n := n + 18) (F := f_all_figures) rfl rfl rfl e⟩
  unfold b_all_figures
  by_cases he : cs = []
  · subst he
    refine ⟨[], exs_ret ?_⟩
    simp [stepEx, ev_s, stepEv, cmpD, neD, eqD_ss, te]
  · have e1 : (run fns (n + 16)).ev [some (.str (mk cs))] st (.comp (.var 0) (.var 0) none (.cmp .In (.var 0) (.glo (PySem.Str.ofString "FIGURES") (.str (PySem.Str.ofString "0123456789")))) [none]) = some (.loc st.length, st ++ [.lst true (cs.map fun c => D.bl (isFig c))]) := by
      refine comp_map (r := run fns (n + 15)) (s := .str (mk cs)) (S' := st) (ds := cs.map sgn) (rest := []) ?_ (fun i => at_str _ _ i) (by simp [Src.size, mk_cps]) rfl (by simp) (by rw [List.length_map]; unfold lim; omega) ?_
      · simp only [src, ev_s, stepEv, List.getElem?_cons_zero, Option.bind_some, mk_ascii ha, if_true]
      · intro i d e h1 h2
        rw [List.getElem?_map] at h1 h2
        cases hy : cs[i]? with
        | none => rw [hy] at h1; cases h1
        | some c =>
          rw [hy] at h1 h2
          cases h1
          cases h2
          simp only [ev_s, stepEv, List.getElem?_cons_zero, Option.bind_some, cmpD, inD, sgn, oneOf_sgn, Option.map_some, td, mk_cps]
          show some (D.bl (decide (c ∈ digs)), st) = _
          rw [fig_in]
    have hb : ∀ l : List Nat, asBools (l.map fun c => D.bl (isFig c)) = some (l.map isFig) := fun l => by
      induction l with
      | nil => rfl
      | cons a r ih => simp [asBools, ih]
    generalize E.comp (.var 0) (.var 0) none (.cmp .In (.var 0) (.glo (PySem.Str.ofString "FIGURES") (.str (PySem.Str.ofString "0123456789")))) [none] = Xe at e1 ⊢
    have e2 : (run fns (n + 17)).ev [some (.str (mk cs))] st (.bcall .all [Xe]) = some (.bl (cs.all isFig), st ++ [.lst true (cs.map fun c => D.bl (isFig c))]) := by
      rw [ev_s]
      simp only [stepEv, evs, e1, Option.bind_some, bfun, bAll, listAt_new, hb, Option.map_some]
      rw [List.all_map]
      rfl
    refine ⟨[.lst true (cs.map fun c => D.bl (isFig c))], exs_ret ?_⟩
    have hne : (mk cs == mk []) = false := by
      rw [mk_beq]
      simpa using he
    have hemp : (!cs.isEmpty) = true := by simpa using he
    have e3 : (run fns (n + 17)).ev [some (.str (mk cs))] st (.cmp .NotEq (.var 0) (.lit (.str (PySem.Str.ofString "")))) = some (.bl true, st) := by
      rw [te]
      simp [ev_s, stepEv, cmpD, neD, eqD_ss, hne]
    rw [stepEx, ev_s, hemp, Bool.true_and, ev_and_t e3, e2]
    rfl
theorem number_ok (n : Nat) (st : Store) (cs : List Nat) (ha : ∀ c ∈ cs, c < 128) (hl : cs.length < 600) : ∃ r, (run fns (n + 30)).call 1 [.str (mk cs)] st = some (numV cs, st ++ r) := by
  obtain ⟨r, e0⟩ := figs_ok (n + 5) st cs ha (by omega)
  simp only [Nat.add_assoc, Nat.reduceAdd] at e0
  refine ⟨r, call_of (n := n + 28) (F := f_number) rfl rfl rfl ?_⟩
  show exs (stepEx (run fns (n + 28))) b_number [some (.str (mk cs))] st = _
  unfold b_number numV
  by_cases h1 : cs ≠ [] ∧ cs.all isFig = true
  · have hb : (!cs.isEmpty && cs.all isFig) = true := by
      rw [h1.2, Bool.and_true]
      simpa using h1.1
    rw [hb] at e0
    rw [exs_cons (τ' := [some (.str (mk cs))]) (s' := st ++ r) (by simp [stepEx, tst_s, stepTst, ev_s, stepEv, evs, e0, truth, ex_s, exs])]
    cases cs with
    | nil => exact absurd rfl h1.1
    | cons c cr =>
      have hli : ¬ lim < (mk (c :: cr)).length := by rw [mk_len]; unfold lim; omega
      have hix : idxD (st ++ r) (.str (mk (c :: cr))) (.int 0) = some (.str (mk [c])) := by
        simp only [idxD, hli, if_false, mk_cps, at0]
        rfl
      by_cases h2 : (c :: cr).head? = some 48 ∧ (c :: cr) ≠ [48]
      · rw [if_neg (by rintro ⟨_, _, h⟩; exact h h2)]
        have hc : c = 48 := by simpa using h2.1
        subst hc
        have hne : (mk (48 :: cr) == mk [48]) = false := by
          rw [mk_beq]
          simpa using h2.2
        simp [exs, stepEx, tst_s, stepTst, ev_s, stepEv, hix, cmpD, eqD_ss, neD, t0, hne, ex_s]
      · rw [if_pos ⟨h1.1, h1.2, h2⟩]
        have hint : bInt (st ++ r) [.str (mk (c :: cr))] = some (.int (figVal (c :: cr) : Nat), st ++ r) := by
          simp only [bInt, mk_cps, mk_len]
          rw [if_pos]
          rw [h1.2]
          simpa using (show cr.length + 1 ≤ 640 by simp at hl; omega)
        by_cases hc : c = 48
        · subst hc
          have hcr : (48 :: cr) = [48] := by
            by_cases q : (48 :: cr) = [48]
            · exact q
            · exact absurd ⟨rfl, q⟩ h2
          have hne : (mk (48 :: cr) == mk [48]) = true := by rw [mk_beq, hcr]; rfl
          simp [exs, stepEx, tst_s, stepTst, ev_s, stepEv, evs, hix, cmpD, eqD_ss, neD, t0, hne, ex_s, bfun, hint]
        · have hne : (mk [c] == mk [48]) = false := by
            rw [mk_beq]
            simpa using hc
          simp [exs, stepEx, tst_s, stepTst, ev_s, stepEv, evs, hix, cmpD, eqD_ss, neD, t0, hne, ex_s, bfun, hint]
  · rw [if_neg (fun h => h1 ⟨h.1, h.2.1⟩)]
    have hb : (!cs.isEmpty && cs.all isFig) = false := by
      by_cases q : cs = []
      · subst q; rfl
      · have : ¬ cs.all isFig = true := fun z => h1 ⟨q, z⟩
        simp only [Bool.not_eq_true] at this
        rw [this, Bool.and_false]
    rw [hb] at e0
    simp [exs, stepEx, tst_s, stepTst, ev_s, stepEv, evs, e0, truth, ex_s]
def nBody : List S := [.set (.var 3) (.meth (.lit (.str (PySem.Str.ofString "0123456789"))) .find [(.var 2)]), .ite (.cmp .Lt (.var 3) (.lit (.int 0))) [.ret (.lit .non)] [], .set (.var 1) (.bin .Add (.bin .Mult (.var 1) (.lit (.int 10))) (.var 3))]
theorem turn_fig (m : Nat) (s : Store) (z : PySem.Str) (v : Int) (o2 o3 : Option D) {y : Nat} (hf : isFig y = true) : ((setT (.var 2) (sgn y) [some (.str z), some (.int v), o2, o3]).bind fun τ' => (run fns (m + 9)).ex τ' s nBody) = some (.nx [some (.str z), some (.int (v * 10 + ((y - 48 : Nat) : Int))), some (sgn y), some (.int ((y - 48 : Nat) : Int))], s) := by
  have m1 : ∀ x : Int, mulOk x 10 = true := fun x => mulOk_r (by decide) (by decide)
  have hn0 : ¬ ((y - 48 : Nat) : Int) < 0 := by omega
  have hfi : mFind s (.str (mk digs)) [sgn y] = some (.int ((y - 48 : Nat) : Int), s) := by
    simp only [mFind, sgn, oneOf_sgn, Option.map_some, mk_cps, find_fig hf]
  simp only [nBody, td, setT, List.length_cons, List.length_nil, Nat.reduceAdd, Nat.reduceLT, if_true, List.set_cons_succ, List.set_cons_zero, Option.bind_some, ex_s, exs, stepEx, ev_s, stepEv, evs, List.getElem?_cons_succ, List.getElem?_cons_zero, mty, mfun, hfi, Option.map_some, tst_s, stepTst, cmpD, hn0, decide_false, Bool.false_eq_true, if_false, binop, m1]
theorem turn_no (m : Nat) (s : Store) (z : PySem.Str) (v : Int) (o2 o3 : Option D) {y : Nat} (hf : isFig y = false) : ((setT (.var 2) (sgn y) [some (.str z), some (.int v), o2, o3]).bind fun τ' => (run fns (m + 9)).ex τ' s nBody) = some (.rt .non, s) := by
  have hfi : mFind s (.str (mk digs)) [sgn y] = some (.int (-1), s) := by
    simp only [mFind, sgn, oneOf_sgn, Option.map_some, mk_cps, find_no hf]
  simp only [nBody, td, setT, List.length_cons, List.length_nil, Nat.reduceAdd, Nat.reduceLT, if_true, List.set_cons_succ, List.set_cons_zero, Option.bind_some, ex_s, exs, stepEx, ev_s, stepEv, evs, List.getElem?_cons_succ, List.getElem?_cons_zero, mty, mfun, hfi, Option.map_some, tst_s, stepTst, cmpD, show ((-1 : Int) < 0) = True from by simp, decide_true, if_true]
theorem law_number_ok (n : Nat) (st : Store) (cs : List Nat) (ha : ∀ c ∈ cs, c < 128) (hl : cs.length < 600) : (run fns (n + 20)).call 4 [.str (mk cs)] st = some (numV cs, st) := by
  refine call_of (n := n + 18) (F := f_law_number) rfl rfl rfl ?_
  show exs (stepEx (run fns (n + 18))) b_law_number [some (.str (mk cs)), none, none, none] st = _
  unfold b_law_number numV
  have hli : ¬ lim < (mk cs).length := by rw [mk_len]; unfold lim; omega
  cases hcs : cs with
  | nil =>
    rw [if_neg (by simp)]
    have hb : (mk [] == mk []) = true := by rw [mk_beq]; rfl
    simp [exs, stepEx, tst_s, stepTst, ev_s, stepEv, cmpD, eqD_ss, te, hb, ex_s]
  | cons c cr =>
    rw [hcs] at hli hl ha
    have hix : idxD st (.str (mk (c :: cr))) (.int 0) = some (.str (mk [c])) := by
      simp only [idxD, hli, if_false, mk_cps, at0]
      rfl
    have hb : (mk (c :: cr) == mk []) = false := by rw [mk_beq]; rfl
    have hlen : bLen st [.str (mk (c :: cr))] = some (.int ((cr.length + 1 : Nat) : Int), st) := by
      show (if lim < (mk (c :: cr)).length then none else some (D.int ((mk (c :: cr)).length : Nat), st)) = _
      rw [if_neg hli, mk_len]
      rfl
    by_cases h2 : (c :: cr).head? = some 48 ∧ (c :: cr) ≠ [48]
    · rw [if_neg (by rintro ⟨_, _, h⟩; exact h h2)]
      have hc : c = 48 := by simpa using h2.1
      subst hc
      have h3 : (1 : Int) < ((cr.length + 1 : Nat) : Int) := by
        have : cr ≠ [] := fun z => h2.2 (by rw [z])
        have := List.length_pos_iff.mpr this
        omega
      have hne : (mk [48] == mk [48]) = true := by rw [mk_beq]; rfl
      simp only [exs, stepEx, tst_s, stepTst, ev_s, stepEv, evs, List.getElem?_cons_zero, Option.bind_some, cmpD, eqD_ss, te, hb, Option.map_some, bfun, hlen, h3, decide_true, if_true, hix, t0, hne, ex_s, Bool.false_eq_true, if_false]
    · have pre : stepEx (run fns (n + 18)) [some (.str (mk (c :: cr))), none, none, none] st (.ite (.or (.cmp .Eq (.var 0) (.lit (.str (PySem.Str.ofString "")))) (.and (.cmp .Gt (.bcall .len [(.var 0)]) (.lit (.int 1))) (.cmp .Eq (.idx (.var 0) (.lit (.int 0))) (.lit (.str (PySem.Str.ofString "0")))))) [.ret (.lit .non)] []) = some (.nx [some (.str (mk (c :: cr))), none, none, none], st) := by
        by_cases h3 : (1 : Int) < ((cr.length + 1 : Nat) : Int)
        · have hc : c ≠ 48 := fun z => h2 ⟨by rw [z]; rfl, fun q => by
            have := congrArg List.length q
            simp at this
            subst this
            simp at h3⟩
          have hne : (mk [c] == mk [48]) = false := by rw [mk_beq]; simpa using hc
          simp only [exs, stepEx, tst_s, stepTst, ev_s, stepEv, evs, List.getElem?_cons_zero, Option.bind_some, cmpD, eqD_ss, te, hb, Option.map_some, bfun, hlen, h3, decide_true, if_true, hix, t0, hne, ex_s, Bool.false_eq_true, if_false]
        · simp only [exs, stepEx, tst_s, stepTst, ev_s, stepEv, evs, List.getElem?_cons_zero, Option.bind_some, cmpD, eqD_ss, te, hb, Option.map_some, bfun, hlen, h3, decide_false, ex_s, Bool.false_eq_true, if_false]
      rw [exs_cons pre]
      rw [exs_cons (τ' := [some (.str (mk (c :: cr))), some (.int 0), none, none]) (s' := st) (by simp [stepEx, ev_s, stepEv, setT])]
      generalize hd : c :: cr = ds at *
      have hne : ds ≠ [] := by rw [← hd]; simp
      have L := loop_any (s := .str (mk ds)) (ds := ds.map sgn) (τ := [some (.str (mk ds)), some (.int 0), none, none]) (st := st)
        (f := fun τ st d => (setT (.var 2) d τ).bind fun τ' => (run fns (n + 18)).ex τ' st nBody)
        (fun i τ s => ∃ o2 o3, τ = [some (.str (mk ds)), some (.int (figVal (ds.take i) : Nat)), o2, o3] ∧ s = st ∧ (ds.take i).all isFig = true)
        (fun _ _ => False) (fun v s => v = .non ∧ s = st ∧ ds.all isFig = false) ⟨none, none, rfl, rfl, rfl⟩ (by simp [Src.size, mk_cps]) (fun i τ s _ => at_str _ _ i) (by
          rintro i τ s d hd' ⟨o2, o3, rfl, rfl, hall⟩
          rw [List.getElem?_map] at hd'
          cases hy : ds[i]? with
          | none => rw [hy] at hd'; cases hd'
          | some y =>
            rw [hy] at hd'
            cases hd'
            have tk : ds.take (i + 1) = ds.take i ++ [y] := by rw [List.take_add_one, hy]; rfl
            have m1 : ∀ x : Int, mulOk x 10 = true := fun x => mulOk_r (by decide) (by decide)
            cases hf : isFig y with
            | true =>
              left
              refine ⟨[some (.str (mk ds)), some (.int (figVal (ds.take (i + 1)) : Nat)), some (sgn y), some (.int ((y - 48 : Nat) : Int))], s, .inl ?_, _, _, rfl, rfl, by rw [tk, List.all_append, hall]; simp [hf]⟩
              have hv : ((figVal (ds.take (i + 1)) : Nat) : Int) = (figVal (ds.take i) : Nat) * 10 + ((y - 48 : Nat) : Int) := by
                rw [tk]
                unfold figVal
                rw [List.foldl_append]
                simp only [List.foldl_cons, List.foldl_nil]
                omega
              have hn0 : ¬ ((y - 48 : Nat) : Int) < 0 := by omega
              rw [hv]
              exact turn_fig (n + 9) s _ _ _ _ hf
            | false =>
              right; right
              refine ⟨.non, s, ?_, rfl, rfl, ?_⟩
              · exact turn_no (n + 9) s _ _ _ _ hf
              · rw [List.all_eq_false]
                exact ⟨y, List.mem_of_getElem? hy, by rw [hf]; simp⟩)
      have hsrc : src (run fns (n + 18)) [some (.str (mk ds)), some (.int 0), none, none] st (.var 0) = some (.str (mk ds), st) := by
        simp only [src, ev_s, stepEv, List.getElem?_cons_zero, Option.bind_some, mk_ascii ha, if_true]
      rcases L with ⟨τ', s', e, ⟨o2, o3, rfl, rfl, hall⟩ | h⟩ | ⟨v, s', e, rfl, rfl, hall⟩
      · rw [List.length_map, List.take_length] at hall e
        have el : stepEx (run fns (n + 18)) [some (.str (mk ds)), some (.int 0), none, none] s' (.forr (.var 2) (.var 0) nBody) = some (.nx [some (.str (mk ds)), some (.int (figVal ds : Nat)), o2, o3], s') := by
          rw [stepEx, hsrc]
          exact e
        unfold nBody at el
        rw [exs_cons el, if_pos ⟨hne, hall, h2⟩]
        simp [exs, stepEx, ev_s, stepEv]
      · exact h.elim
      · have el : stepEx (run fns (n + 18)) [some (.str (mk ds)), some (.int 0), none, none] s' (.forr (.var 2) (.var 0) nBody) = some (.rt .non, s') := by
          rw [stepEx, hsrc]
          exact e
        unfold nBody at el
        rw [exs_ret el, if_neg (by rintro ⟨_, h, _⟩; rw [h] at hall; cases hall)]
def sBody : List S := [.set (.var 5) (.idx (.lit (.str (PySem.Str.ofString "0123456789"))) (.call 2 [(.var 0), (.bin .Add (.lit (.int 1)) (.var 4)), (.lit (.int 0)), (.lit (.int 10))])), .ite (.and (.cmp .Eq (.var 2) (.lit (.int 0))) (.cmp .Eq (.call 2 [(.var 0), (.bin .Add (.lit (.int 1)) (.var 4)), (.lit (.int 1)), (.lit (.int 6))]) (.lit (.int 0)))) [.set (.var 5) (.idx (.lit (.str (PySem.Str.ofString "-+ _.,aEx~\n0123456789"))) (.call 2 [(.var 0), (.bin .Add (.lit (.int 1)) (.var 4)), (.lit (.int 2)), (.lit (.int 21))]))] [], .expr (.meth (.var 3) .append [(.var 5)])]
theorem idx_lit {S : Store} {l : List Nat} {i : Int} (hlim : l.length < 1000) (h0 : 0 ≤ i) (h1 : i < l.length) : ∃ c, c ∈ l ∧ idxD S (.str (mk l)) (.int i) = some (sgn c) := by
  obtain ⟨c, hc, e⟩ := atI_in h0 h1
  refine ⟨c, hc, ?_⟩
  have hli : ¬ lim < (mk l).length := by rw [mk_len]; unfold lim; omega
  simp only [idxD, hli, if_false, mk_cps, e, Option.map_some]
  rfl
theorem digs_lt : ∀ c ∈ digs, c < 128 := by decide
theorem odds_lt : ∀ c ∈ odds, c < 128 := by decide
theorem odd6_lt : ∀ c ∈ odd6, c < 128 := by decide
theorem signs_ok (A : Store) (l : Nat) (ns : List Int) (hl : listAt A l = some (ns.map D.int)) (hn : ns.length ≤ 63) (size odd : Int) (h0 : 0 ≤ size) (h1 : size < 41) :
    ∃ (o4 o5 : Option D) (cs : List Nat), (∀ c ∈ cs, c < 128) ∧ cs.length = size.toNat ∧ stepEx (run fns 98) [some (.loc l), some (.int size), some (.int odd), some (.loc A.length), none, none, none, none] (A ++ [.lst true []]) (.forr (.var 4) (.rng1 (.var 1)) sBody) =
      some (.nx [some (.loc l), some (.int size), some (.int odd), some (.loc A.length), o4, o5, none, none], A ++ [.lst true (cs.map sgn)]) := by
  have dr := Drw.of hDraw hl hn
  have hb : big size = false := by unfold big; simp; omega
  obtain ⟨τ', st', e, o4, o5, cs, hcs, hlen, rfl, rfl⟩ := loop_rng (lo := 0) (n := size.toNat) (τ := [some (.loc l), some (.int size), some (.int odd), some (.loc A.length), none, none, none, none]) (st := A ++ [.lst true []])
    (f := fun τ st d => (setT (.var 4) d τ).bind fun τ' => (run fns 98).ex τ' st sBody)
    (fun i τ s => ∃ (o4 o5 : Option D) (cs : List Nat), (∀ c ∈ cs, c < 128) ∧ cs.length = i ∧ τ = [some (.loc l), some (.int size), some (.int odd), some (.loc A.length), o4, o5, none, none] ∧ s = A ++ [.lst true (cs.map sgn)]) ⟨none, none, [], by simp, rfl, rfl, rfl⟩ (by
      rintro i τ s hi ⟨o4, o5, cs, hcs, hlen, rfl, rfl⟩
      have hs : cs.length < lim := by unfold lim; omega
      have i0 : (0 : Int) ≤ 1 + (i : Int) := by omega
      have i1 : 1 + (i : Int) < 1000 := by omega
      have dk := fun (n : Nat) (j many : Int) (r : Store) (h1 : 0 ≤ j) (h2 : j < 1000) (h3 : 0 < many) => dr.at_ n (1 + (i : Int)) j many r i0 i1 h1 h2 h3
      have d0 := drawV_lo ns (1 + (i : Int)) 0 (many := 10) (by omega)
      have d1 := drawV_hi ns (1 + (i : Int)) 0 (many := 10) (by omega)
      have g0 := drawV_lo ns (1 + (i : Int)) 2 (many := 21) (by omega)
      have g1 := drawV_hi ns (1 + (i : Int)) 2 (many := 21) (by omega)
      obtain ⟨c, hc, ec⟩ := idx_lit (S := A ++ [.lst true (cs.map sgn)]) (l := digs) (by decide) d0 d1
      obtain ⟨c2, hc2, ec2⟩ := idx_lit (S := A ++ [.lst true (cs.map sgn)]) (l := odds) (by decide) g0 g1
      have fin : ∀ x : Nat, x < 128 → exs (stepEx (run fns 97)) [.expr (.meth (.var 3) .append [(.var 5)])] [some (.loc l), some (.int size), some (.int odd), some (.loc A.length), some (.int (0 + i)), some (sgn x), none, none] (A ++ [.lst true (cs.map sgn)]) = some (.nx [some (.loc l), some (.int size), some (.int odd), some (.loc A.length), some (.int (0 + i)), some (sgn x), none, none], A ++ [.lst true ((cs ++ [x]).map sgn)]) := by
        intro x hx
        simp [exs, stepEx, ev_s, stepEv, evs, mty, mfun, mAppend, listAt_new, wlistAt_new, hs, set_new]
      by_cases hodd : odd = 0 ∧ drawV ns (1 + (i : Int)) 1 6 = 0
      · refine ⟨[some (.loc l), some (.int size), some (.int odd), some (.loc A.length), some (.int (0 + i)), some (sgn c2), none, none], A ++ [.lst true ((cs ++ [c2]).map sgn)], ?_, _, _, cs ++ [c2], ?_, by simp [hlen], rfl, rfl⟩
        · simp only [setT, List.length_cons, List.length_nil, Nat.reduceAdd, Nat.reduceLT, if_true, List.set_cons_succ, List.set_cons_zero, Option.bind_some, ex_s]
          unfold sBody
          rw [exs_cons (τ' := [some (.loc l), some (.int size), some (.int odd), some (.loc A.length), some (.int (0 + i)), some (sgn c), none, none]) (s' := A ++ [.lst true (cs.map sgn)]) (by simp [stepEx, ev_s, stepEv, evs, binop, dk, td, ec, setT])]
          rw [exs_cons (τ' := [some (.loc l), some (.int size), some (.int odd), some (.loc A.length), some (.int (0 + i)), some (sgn c2), none, none]) (s' := A ++ [.lst true (cs.map sgn)]) (by simp [stepEx, tst_s, stepTst, ev_s, stepEv, evs, binop, dk, hodd.1, hodd.2, cmpD, eqD_ii, to, ec2, setT, ex_s, exs])]
          exact fin c2 (odds_lt c2 hc2)
        · intro x hx
          rcases List.mem_append.mp hx with q | q
          · exact hcs x q
          · rw [List.mem_singleton.mp q]; exact odds_lt c2 hc2
      · refine ⟨[some (.loc l), some (.int size), some (.int odd), some (.loc A.length), some (.int (0 + i)), some (sgn c), none, none], A ++ [.lst true ((cs ++ [c]).map sgn)], ?_, _, _, cs ++ [c], ?_, by simp [hlen], rfl, rfl⟩
        · simp only [setT, List.length_cons, List.length_nil, Nat.reduceAdd, Nat.reduceLT, if_true, List.set_cons_succ, List.set_cons_zero, Option.bind_some, ex_s]
          unfold sBody
          rw [exs_cons (τ' := [some (.loc l), some (.int size), some (.int odd), some (.loc A.length), some (.int (0 + i)), some (sgn c), none, none]) (s' := A ++ [.lst true (cs.map sgn)]) (by simp [stepEx, ev_s, stepEv, evs, binop, dk, td, ec, setT])]
          rw [exs_cons (τ' := [some (.loc l), some (.int size), some (.int odd), some (.loc A.length), some (.int (0 + i)), some (sgn c), none, none]) (s' := A ++ [.lst true (cs.map sgn)]) (by
            by_cases q : odd = 0
            · have q2 : ¬ drawV ns (1 + (i : Int)) 1 6 = 0 := fun z => hodd ⟨q, z⟩
              simp [stepEx, tst_s, stepTst, ev_s, stepEv, evs, binop, dk, q, q2, cmpD, eqD_ii, ex_s, exs]
            · simp [stepEx, tst_s, stepTst, ev_s, stepEv, evs, q, cmpD, eqD_ii, ex_s, exs])]
          exact fin c (digs_lt c hc)
        · intro x hx
          rcases List.mem_append.mp hx with q | q
          · exact hcs x q
          · rw [List.mem_singleton.mp q]; exact digs_lt c hc)
  refine ⟨o4, o5, cs, hcs, hlen, ?_⟩
  simp only [stepEx, src, ev_s, stepEv, Src.size, List.getElem?_cons_succ, List.getElem?_cons_zero, Option.bind_some, hb, Bool.false_eq_true, if_false]
  exact e
theorem cut_mem {α : Type} {l : List α} {lo hi : Option Int} {x : α} (h : x ∈ cut l lo hi) : x ∈ l := List.mem_of_mem_drop (List.mem_of_mem_take h)
theorem cut_len {α : Type} (l : List α) (lo hi : Option Int) : (cut l lo hi).length ≤ l.length := by
  unfold cut
  rw [List.length_take, List.length_drop]
  omega
theorem sli_mk {S : Store} {cs : List Nat} (hl : cs.length < 1000) (lo hi : Option Int) : sliD S (.str (mk cs)) lo hi = some (.str (mk (cut cs lo hi)), S) := by
  have hli : ¬ lim < (mk cs).length := by rw [mk_len]; unfold lim; omega
  show (if lim < (mk cs).length then none else some (D.str ⟨(cut (mk cs).cps.toList lo hi).toArray⟩, S)) = _
  rw [if_neg hli]
  rfl
theorem add_mk {S : Store} {a b : List Nat} (h1 : a.length < 1000) (h2 : b.length < 1000) : binop S .Add (.str (mk a)) (.str (mk b)) = some (.str (mk (a ++ b)), S) := by
  have hli : ¬ lim < (mk a).length + (mk b).length := by rw [mk_len, mk_len]; unfold lim; omega
  show (if lim < (mk a).length + (mk b).length then none else some (D.str (mk a ++ mk b), S)) = _
  rw [if_neg hli, mk_app]
theorem add_ii (S : Store) (a b : Int) : binop S .Add (.int a) (.int b) = some (.int (a + b), S) := rfl
theorem sum_ones : ∀ cs : List Nat, (List.map (fun x : PySem.Str => x.length) (cs.map fun c => (⟨#[c]⟩ : PySem.Str))).sum = cs.length
  | [] => rfl
  | a :: r => by
    simp only [List.map_cons, List.sum_cons, sum_ones r, List.length_cons]
    show 1 + r.length = _
    omega
theorem law_ok (st : Store) (l : Nat) (ns : List Int) (hl : listAt st l = some (ns.map D.int)) (hn : ns.length ≤ 63) : ∃ st', (run fns 100).call 5 [.loc l] st = some (.bl true, st') := by
  suffices H : ∃ st', exs (stepEx (run fns 98)) b_law [some (.loc l), none, none, none, none, none, none, none] st = some (.rt (.bl true), st') by
    obtain ⟨st', e⟩ := H
    exact ⟨st', call_of (n := 98) (F := f_law) rfl rfl rfl e⟩
  have dr0 := Drw.of hDraw hl hn
  have a0 := drawV_lo ns 0 1 (many := 3) (by omega)
  have a1 := drawV_hi ns 0 1 (many := 3) (by omega)
  obtain ⟨v, hv0, hv1, ev⟩ : ∃ v : Int, 0 < v ∧ v ≤ 41 ∧ atI [D.int 4, .int 12, .int 41] (drawV ns 0 1 3) = some (.int v) := by
    have : drawV ns 0 1 3 = 0 ∨ drawV ns 0 1 3 = 1 ∨ drawV ns 0 1 3 = 2 := by omega
    rcases this with h | h | h <;> rw [h]
    · exact ⟨4, by omega, by omega, rfl⟩
    · exact ⟨12, by omega, by omega, rfl⟩
    · exact ⟨41, by omega, by omega, rfl⟩
  have s0 := drawV_lo ns 0 0 (many := v) hv0
  have s1 := drawV_hi ns 0 0 (many := v) hv0
  generalize hz : drawV ns 0 0 v = size at *
  generalize hA : st ++ [Cell.lst true [D.int 4, .int 12, .int 41]] = A
  have hlA : listAt A l = some (ns.map D.int) := by rw [← hA]; exact listAt_old hl _
  have dr := Drw.of hDraw hlA hn
  unfold b_law
  rw [exs_cons (τ' := [some (.loc l), some (.int size), none, none, none, none, none, none]) (s' := A) (by
    have e := dr0.at_ 77 0 0 v [Cell.lst true [D.int 4, .int 12, .int 41]] (by omega) (by omega) (by omega) (by omega) hv0
    rw [hz, hA] at e
    have hA0 : listAt A st.length = some [D.int 4, .int 12, .int 41] := by rw [← hA]; exact listAt_new _ _ _
    simp [stepEx, ev_s, stepEv, evs, lim, alloc, dr.here, idxD, hA0, ev, e, setT, hA])]
  rw [exs_cons (τ' := [some (.loc l), some (.int size), some (.int (drawV ns 0 2 3)), none, none, none, none, none]) (s' := A) (by simp [stepEx, ev_s, stepEv, evs, dr.here, setT])]
  rw [exs_cons (τ' := [some (.loc l), some (.int size), some (.int (drawV ns 0 2 3)), some (.loc A.length), none, none, none, none]) (s' := A ++ [.lst true []]) (by simp [stepEx, ev_s, stepEv, evs, lim, alloc, setT])]
  obtain ⟨o4, o5, cs, hcs, hlen, el⟩ := signs_ok A l ns hlA hn size (drawV ns 0 2 3) s0 (by omega)
  unfold sBody at el
  rw [exs_cons el]
  generalize hB : A ++ [Cell.lst true (cs.map sgn)] = B
  have hlB : listAt B l = some (ns.map D.int) := by rw [← hB]; exact listAt_old hlA _
  have drB := Drw.of hDraw hlB hn
  have hsB : listAt B A.length = some (cs.map sgn) := by rw [← hB]; exact listAt_new _ _ _
  have hL : cs.length < 41 := by omega
  have ej : mJoin B (.str (mk [])) [.loc A.length] = some (.str (mk cs), B) := by
    have e1 : asStrs (cs.map sgn) = some (cs.map fun c => (⟨#[c]⟩ : PySem.Str)) := by
      have := asStrs_map (cs.map fun c => (⟨#[c]⟩ : PySem.Str))
      rw [List.map_map] at this
      exact this
    simp only [mJoin, hsB, e1, Option.bind_some, join_singles]
    rw [if_pos]
    have e2 := sum_ones cs
    rw [e2, mk_len]
    unfold lim
    simp
    omega
  rw [exs_cons (τ' := [some (.loc l), some (.int size), some (.int (drawV ns 0 2 3)), some (.loc A.length), o4, o5, some (.str (mk cs)), none]) (s' := B) (by
    simp [stepEx, ev_s, stepEv, evs, te, mty, mfun, ej, setT])]
  obtain ⟨ds, hds, hdl, e6⟩ : ∃ ds : List Nat, (∀ c ∈ ds, c < 128) ∧ ds.length < 100 ∧ stepEx (run fns 98) [some (.loc l), some (.int size), some (.int (drawV ns 0 2 3)), some (.loc A.length), o4, o5, some (.str (mk cs)), none] B (.ite (.cmp .Eq (.call 2 [(.var 0), (.lit (.int 0)), (.lit (.int 3)), (.lit (.int 4))]) (.lit (.int 0))) [.set (.var 6) (.bin .Add (.lit (.str (PySem.Str.ofString "0"))) (.sli (.var 6) (some (.lit (.int 1))) none))] []) =
      some (.nx [some (.loc l), some (.int size), some (.int (drawV ns 0 2 3)), some (.loc A.length), o4, o5, some (.str (mk ds)), none], B) := by
    by_cases h : drawV ns 0 3 4 = 0
    · have c1 := cut_len cs (some 1) none
      refine ⟨[48] ++ cut cs (some 1) none, ?_, ?_, ?_⟩
      · intro c hc
        rcases List.mem_append.mp hc with q | q
        · rw [List.mem_singleton.mp q]; decide
        · exact hcs c (cut_mem q)
      · simp only [List.length_append, List.length_cons, List.length_nil]; omega
      · have ea := add_mk (S := B) (a := [48]) (b := cut cs (some 1) none) (by decide) (by omega)
        have es := sli_mk (S := B) (cs := cs) (by omega) (some 1) none
        simp only [stepEx, tst_s, stepTst, ev_s, stepEv, evs, List.getElem?_cons_succ, List.getElem?_cons_zero, Option.bind_some, drB.here 76 0 3 4 (by omega) (by omega) (by omega) (by omega) (by omega), h, cmpD, eqD_ii, beq_self_eq_true, Option.map_some, if_true, ex_s, exs, t0, part, es, ea, setT, List.length_cons, List.length_nil, Nat.reduceAdd, Nat.reduceLT, List.set_cons_succ, List.set_cons_zero]
    · refine ⟨cs, hcs, by omega, ?_⟩
      simp [stepEx, tst_s, stepTst, ev_s, stepEv, evs, drB.here, h, cmpD, eqD_ii, ex_s, exs]
  rw [exs_cons e6]
  obtain ⟨o7, ks, hks, hkl, e7⟩ : ∃ (o7 : Option D) (ks : List Nat), (∀ c ∈ ks, c < 128) ∧ ks.length < 300 ∧ stepEx (run fns 98) [some (.loc l), some (.int size), some (.int (drawV ns 0 2 3)), some (.loc A.length), o4, o5, some (.str (mk ds)), none] B (.ite (.and (.cmp .Eq (.call 2 [(.var 0), (.lit (.int 0)), (.lit (.int 4)), (.lit (.int 6))]) (.lit (.int 0))) (.cmp .Gt (.var 1) (.lit (.int 0)))) [.set (.var 7) (.call 2 [(.var 0), (.lit (.int 0)), (.lit (.int 5)), (.var 1)]), .set (.var 6) (.bin .Add (.bin .Add (.sli (.var 6) none (some (.var 7))) (.idx (.lit (.str (PySem.Str.ofString "-+ _\n~"))) (.call 2 [(.var 0), (.lit (.int 0)), (.lit (.int 6)), (.lit (.int 6))]))) (.sli (.var 6) (some (.bin .Add (.var 7) (.lit (.int 1)))) none))] []) =
      some (.nx [some (.loc l), some (.int size), some (.int (drawV ns 0 2 3)), some (.loc A.length), o4, o5, some (.str (mk ks)), o7], B) := by
    by_cases h : drawV ns 0 4 6 = 0 ∧ 0 < size
    · have g0 := drawV_lo ns 0 6 (many := 6) (by omega)
      have g1 := drawV_hi ns 0 6 (many := 6) (by omega)
      obtain ⟨c, hc, ec⟩ := idx_lit (S := B) (l := odd6) (by decide) g0 g1
      generalize hat : drawV ns 0 5 size = at_
      have c1 := cut_len ds none (some at_)
      have c2 := cut_len ds (some (at_ + 1)) none
      refine ⟨some (.int at_), cut ds none (some at_) ++ [c] ++ cut ds (some (at_ + 1)) none, ?_, ?_, ?_⟩
      · intro x hx
        rcases List.mem_append.mp hx with q | q
        · rcases List.mem_append.mp q with q | q
          · exact hds x (cut_mem q)
          · rw [List.mem_singleton.mp q]; exact odd6_lt c hc
        · exact hds x (cut_mem q)
      · simp only [List.length_append, List.length_cons, List.length_nil]; omega
      · have ea := add_mk (S := B) (a := cut ds none (some at_)) (b := [c]) (by omega) (by simp)
        have eb := add_mk (S := B) (a := cut ds none (some at_) ++ [c]) (b := cut ds (some (at_ + 1)) none) (by simp only [List.length_append, List.length_cons, List.length_nil]; omega) (by omega)
        have es := sli_mk (S := B) (cs := ds) (by omega) none (some at_)
        have eu := sli_mk (S := B) (cs := ds) (by omega) (some (at_ + 1)) none
        have ec : idxD B (.str (mk odd6)) (.int (drawV ns 0 6 6)) = some (.str (mk [c])) := ec
        have d5 := drB.here 76 0 5 size (by omega) (by omega) (by omega) (by omega) h.2
        rw [hat] at d5
        simp only [stepEx, tst_s, stepTst, ev_s, stepEv, evs, List.getElem?_cons_succ, List.getElem?_cons_zero, Option.bind_some, drB.here 75 0 4 6 (by omega) (by omega) (by omega) (by omega) (by omega), h.1, h.2, cmpD, eqD_ii, beq_self_eq_true, decide_true, Option.map_some, if_true, ex_s, exs, d5, setT, List.length_cons, List.length_nil, Nat.reduceAdd, Nat.reduceLT, List.set_cons_succ, List.set_cons_zero, t6, part, es, drB.here 73 0 6 6 (by omega) (by omega) (by omega) (by omega) (by omega), ec, ea, add_ii, eu, eb]
    · refine ⟨none, ds, hds, by omega, ?_⟩
      by_cases q : drawV ns 0 4 6 = 0
      · have q2 : ¬ 0 < size := fun z => h ⟨q, z⟩
        simp [stepEx, tst_s, stepTst, ev_s, stepEv, evs, drB.here, q, q2, cmpD, eqD_ii, ex_s, exs]
      · simp [stepEx, tst_s, stepTst, ev_s, stepEv, evs, drB.here, q, cmpD, eqD_ii, ex_s, exs]
  rw [exs_cons e7]
  obtain ⟨r, en⟩ := number_ok 66 B ks hks (by omega)
  have el2 := law_number_ok 76 (B ++ r) ks hks (by omega)
  have es := same_scal hSame 77 (B ++ r) (numV ks) (by
    unfold numV
    split
    · exact .inl ⟨_, rfl⟩
    · exact .inr (.inr (.inr rfl)))
  refine ⟨B ++ r, exs_ret ?_⟩
  simp only [Nat.reduceAdd] at en el2 es
  simp only [stepEx, ev_s, stepEv, evs, List.getElem?_cons_succ, List.getElem?_cons_zero, Option.bind_some, en, el2, es, Option.map_some]
end K06
end
section
set_option linter.all false
set_option Elab.async false
set_option maxRecDepth 100000
set_option maxHeartbeats 4000000
namespace MS
open PySem PySem.Spec PyProof.Rows L2
theorem noFill_tuple_mul : fillsNumberSlot (.type "tuple") "mul" = pure false :=
  PySem.fillsNumberSlot_seq (id := "tuple.__mul__") (r := some (.builtin "tuple.__rmul__")) F.slot_tuple_mul.lookup (by decide +kernel) F.slot_tuple_rmul.lookup (by decide +kernel)
theorem repeat_tuple : seqRepeat? (.type "tuple") = pure (some (.builtin "tuple.__mul__")) := by
  unfold seqRepeat?
  rw [PySem.seqSlot_of (T := "tuple") (name := "__mul__") (id := "tuple.__mul__") F.slot_tuple_mul.lookup (by decide +kernel), PySem.seqSlot_of (T := "tuple") (name := "__rmul__") (id := "tuple.__rmul__") F.slot_tuple_rmul.lookup (by decide +kernel)]
  rfl
theorem int_rmul_tuple (a : Int) (t : Tok) (l : Addr) (items : Array Value) (n : Nat) (dd : Option Addr) (sl : Array (Option Value)) :
    Meets (Builtin.«int.__rmul__» ⟨[.int a t, .ref l], []⟩) (fun _ R s => s.heap.get? l = some { cls := .type "tuple", dict := dd, data := .seq items n, slots := sl } ∧ R (.ok (.ret Value.notImplemented)) s) :=
  .of_wp fun prog w A R s h => by obtain ⟨hp, g, d, tk, os⟩ := s; obtain ⟨hl, h⟩ := h; wp_walk; exact ⟨_, rfl, h⟩
theorem tuple_mul_same (l : Addr) (items : Array Value) (n : Nat) (dd : Option Addr) (sl : Array (Option Value)) (x : Int) (u : Tok) (h0 : ¬ (decide (x < -(2 ^ 63)) || decide (x ≥ 2 ^ 63)) = true) (h1 : (items.isEmpty || x == 1) = true) :
    Meets (Builtin.«tuple.__mul__» ⟨[.ref l, .int x u], []⟩) (fun _ R s => s.heap.get? l = some { cls := .type "tuple", dict := dd, data := .seq items n, slots := sl } ∧ R (.ok (.ret (Value.ref l))) s) :=
  .of_wp fun prog w A R s h => by
    obtain ⟨hp, g, d, tk, os⟩ := s; obtain ⟨hl, h⟩ := h
    wp_walk
    simp only [if_neg h0]
    wp_walk
    exact ⟨_, rfl, h⟩
theorem tuple_mul_none (l : Addr) (items : Array Value) (n : Nat) (dd : Option Addr) (sl : Array (Option Value)) (x : Int) (u : Tok) (h0 : ¬ (decide (x < -(2 ^ 63)) || decide (x ≥ 2 ^ 63)) = true) (h1 : ¬ (items.isEmpty || x == 1) = true) (h2 : (decide (x ≤ 0) || items.isEmpty) = true) :
    Meets (Builtin.«tuple.__mul__» ⟨[.ref l, .int x u], []⟩) (fun _ R s => s.heap.get? l = some { cls := .type "tuple", dict := dd, data := .seq items n, slots := sl } ∧ R (.ok (.ret (Value.ref s.heap.objs.size))) { s with heap := s.heap.push { cls := .type "tuple", data := .seq #[] } }) :=
  .of_wp fun prog w A R s h => by
    obtain ⟨hp, g, d, tk, os⟩ := s; obtain ⟨hl, h⟩ := h
    wp_walk
    simp only [if_neg h0]
    wp_walk
    exact ⟨_, rfl, h⟩
theorem tuple_mul_more (l : Addr) (items : Array Value) (n : Nat) (dd : Option Addr) (sl : Array (Option Value)) (x : Int) (u : Tok) (h0 : ¬ (decide (x < -(2 ^ 63)) || decide (x ≥ 2 ^ 63)) = true) (h1 : ¬ (items.isEmpty || x == 1) = true) (h2 : ¬ (decide (x ≤ 0) || items.isEmpty) = true)
    (h3 : ¬ ((items.size : Int) * x > (2 ^ 63 - 1) / 8)) (h4 : ¬ Builtin.Tuple.tupleTooMany ((items.size : Int) * x) = true) (h5 : (List.foldl (fun x1 x2 => x1 ++ x2) #[] (List.replicate x.toNat items)).size ≤ sizeLine) :
    Meets (Builtin.«tuple.__mul__» ⟨[.ref l, .int x u], []⟩) (fun _ R s => s.heap.get? l = some { cls := .type "tuple", dict := dd, data := .seq items n, slots := sl } ∧ R (.ok (.ret (Value.ref s.heap.objs.size))) { s with heap := s.heap.push { cls := .type "tuple", data := .seq (List.foldl (fun x1 x2 => x1 ++ x2) #[] (List.replicate x.toNat items)) } }) :=
  .of_wp fun prog w A R s h => by
    obtain ⟨hp, g, d, tk, os⟩ := s; obtain ⟨hl, h⟩ := h
    wp_walk
    simp only [if_neg h0]
    wp_walk
    simp only [if_neg h3]
    wp_walk
    exact ⟨_, rfl, h⟩
/-- a tuple times an int -/
def rRepT (K : PySem.W.Frag) : R2 := fun x y H Q => ∃ l k xs, x = .ref l ∧ y = .int k ∧ SqT K H l xs ∧ -(2 ^ 62) ≤ k ∧ k < 2 ^ 62 ∧ xs.length * k.toNat ≤ sizeLine ∧
  (∀ ys, ys = (List.replicate k.toNat xs).flatten → (ys = xs → Q (.ref l) H) ∧ ∀ p, H p = none → Q (.ref p) (upd H p (.tup ys)))
theorem op_repT {X : Cx} : OpR X (binaryOp .Mult) (rRepT X.K) := by
  intro pins s σ H x y v u Q I rx ry h
  obtain ⟨l, k, xs, rfl, rfl, hq, k1, k2, hz, q⟩ := h
  cases rx
  obtain ⟨t, rfl⟩ := ry
  obtain ⟨its, r, hp, hz0⟩ := I.tuple hq
  obtain ⟨⟨cls, dd, data, sl⟩, ho, hc, n, hd⟩ := id hp
  simp only at hc hd
  subst hc hd
  have hl := r.length
  obtain ⟨qs, qn⟩ := q _ rfl
  have f0 : ∀ m : Nat, List.foldl (fun x1 x2 => x1 ++ x2) #[] (List.replicate m its.toArray) = (List.replicate m its).flatten.toArray := fun m => by
    have := foldl_rep its m []
    rw [List.nil_append] at this
    exact this
  have h0 : ¬ (decide (k < -(2 ^ 63)) || decide (k ≥ 2 ^ 63)) = true := by simp; omega
  refine wpAny_binaryOp_repeat_ref (T := "tuple") (U := "int") (by decide) ⟨_, ho, rfl⟩ (fun s' => typeIs_int s' k t) noFill_tuple_mul F.fills_int_mul F.slot_int_rmul repeat_tuple F.slot_int_index.lookup
    (call_meets F.slot_int_rmul (typeIs_int s k t) F.entry_int_rmul (F.args_int_rmul_2 _ _) (int_rmul_tuple k t l its.toArray n dd sl) ⟨ho, rfl, ⟨_, ho, rfl⟩, ?_⟩)
  by_cases h1 : (its.toArray.isEmpty || k == 1) = true
  · refine call_meets F.slot_tuple_mul ⟨_, ho, rfl⟩ F.entry_tuple_mul (F.args_tuple_mul_2 _ _) (tuple_mul_same l its.toArray n dd sl k t h0 h1) ⟨ho, ?_⟩
    refine ⟨.ref l, H, I, rfl, qs ?_⟩
    rw [Bool.or_eq_true] at h1
    rcases h1 with z | z
    · have e1 : its = [] := by simpa using z
      have e2 : xs = [] := List.length_eq_zero_iff.mp (by rw [hl, e1]; rfl)
      rw [e2]
      simp
    · have e1 : k = 1 := by simpa using z
      rw [e1]
      simp
  · have hne : its ≠ [] := fun z => h1 (by rw [z]; rfl)
    by_cases h2 : (decide (k ≤ 0) || its.toArray.isEmpty) = true
    · refine call_meets F.slot_tuple_mul ⟨_, ho, rfl⟩ F.entry_tuple_mul (F.args_tuple_mul_2 _ _) (tuple_mul_none l its.toArray n dd sl k t h0 h1 h2) ⟨ho, ?_⟩
      have hk : k ≤ 0 := by
        rw [Bool.or_eq_true] at h2
        rcases h2 with z | z
        · simpa using z
        · exact absurd (by simpa using z) hne
      have e0 : k.toNat = 0 := by omega
      refine ⟨.ref _, _, I.laid (a := s.heap.objs.size) (o := .tup (List.replicate k.toNat xs).flatten) (t' := s.toks) (fun _ _ e => Heap.get?_push_of_some _ e) (Nat.le_refl _) ?_, rfl, qn _ I.fresh⟩
      rw [e0]
      exact ⟨Nat.zero_le _, [], .nil, IsTup.new s.heap _⟩
    · have hk : 0 < k := by
        simp at h2; omega
      have hmul : ((its.toArray.size : Nat) : Int) * k = ((its.length * k.toNat : Nat) : Int) := by
        rw [List.size_toArray, Int.natCast_mul]
        congr 1
        omega
      have hz' : its.length * k.toNat ≤ sizeLine := by rw [← hl]; exact hz
      have hsl : (sizeLine : Nat) < 2 ^ 60 := by rw [sizeLine_eq]; decide
      refine call_meets F.slot_tuple_mul ⟨_, ho, rfl⟩ F.entry_tuple_mul (F.args_tuple_mul_2 _ _) (tuple_mul_more l its.toArray n dd sl k t h0 h1 h2 ?_ ?_ ?_) ⟨ho, ?_⟩
      · rw [hmul]; omega
      · unfold Builtin.Tuple.tupleTooMany
        rw [hmul, decide_eq_true_eq]
        omega
      · rw [f0, List.size_toArray, len_rep, Nat.mul_comm]; exact hz'
      · refine ⟨.ref _, _, I.laid (a := s.heap.objs.size) (o := .tup (List.replicate k.toNat xs).flatten) (t' := s.toks) (fun _ _ e => Heap.get?_push_of_some _ e) (Nat.le_refl _) ?_, rfl, qn _ I.fresh⟩
        rw [f0]
        exact ⟨by rw [len_rep, Nat.mul_comm]; exact hz, _, r.rep k.toNat, IsTup.new s.heap _⟩
section
variable {prog : Program} {w : World} {A : Around} {E : Value → Shared → Prop} {s : Shared}
/-- t[lo:hi], the whole of it: t itself -/
theorem getItem_tuple_whole {t sl : Addr} {items : Array Value} {vl vu : Value} {lo hi : Option Int} {Q : Value → Shared → Prop} (ht : IsTup s.heap t items) (hs : s.heap.IsSliceOf sl vl vu .none) (pl : IsPart vl lo) (pu : IsPart vu hi)
    (hw : HT.sIx items.size 0 lo = 0 ∧ HT.sIx items.size items.size hi = items.size) (h : Q (.ref t) s) : wpAny (model prog w) A (getItem (.ref t) (.ref sl)) Q E s := by
  obtain ⟨os, hos, hcs, hds⟩ := id hs
  have hTs : s.TypeIs (.ref sl) "slice" := ⟨os, hos, hcs⟩
  unfold getItem
  try with_reducible refine wpAny_holding ?_
  first | refine wpAny_bind (wpAny_pure ?_) | skip
  refine wpAny_bind (wpAny_sequenceKey ht.typeIs (by decide) ?_)
  refine wpAny_bind (wpAny_callSpecial?_slot (name := Str.ofString "__getitem__") ht.typeIs PyProof.Rows.slot_tuple_getitem
    (wpAny_call_entry PyProof.Rows.slot_tuple_getitem ht.typeIs entry_tuple_getitem ?_ (args_tuple_getitem _ _)))
  show wpAny _ _ (Builtin.Tuple.tupleItemsOf (.ref t) >>= _) _ _ s
  refine wpAny_bind (tupleItemsOf_ ht ?_)
  refine wpAny_bind (wpAny_typeOf hTs ?_)
  rw [if_pos (by decide)]
  refine wpAny_bind (HT.sliceApplied_gen hs pl pu ?_)
  have hyes : (((HT.sIx items.size 0 lo : Nat) : Int) == 0 && (1 : Int) == 1 && (HT.sIx items.size items.size hi - HT.sIx items.size 0 lo) == items.size) = true := by
    rw [hw.1, hw.2]
    simp
  show wpAny _ _ (if (((HT.sIx items.size 0 lo : Nat) : Int) == 0 && (1 : Int) == 1 && (HT.sIx items.size items.size hi - HT.sIx items.size 0 lo) == items.size) = true then _ else _) _ _ s
  rw [if_pos hyes]
  refine wpAny_bind (m := Builtin.Tuple.tupleIsExact _) ?_
  unfold Builtin.Tuple.tupleIsExact
  refine wpAny_bind (wpAny_typeOf ht.typeIs (wpAny_pure ?_))
  rw [if_pos (by decide)]
  first
    | exact wpAny_bind (wpAny_rule (wpAny_pure ⟨_, rfl, wpAny_pure h⟩))
    | exact wpAny_bind (wpAny_rule (wpAny_bind (wpAny_pure (wpAny_pure ⟨_, rfl, wpAny_pure h⟩))))
    | exact wpAny_bind (wpAny_bind (wpAny_rule (wpAny_pure (wpAny_pure ⟨_, rfl, wpAny_pure h⟩))))
end
end MS
end
section
set_option linter.all false
set_option Elab.async false
set_option maxRecDepth 100000
namespace MS
open PySem PySem.Spec PyProof.Rows L2
open M (D Cell Store Sl)

/-! ### what stands for what -/
mutual
def IsD (K : PySem.W.Frag) (m : List Addr) (H : Hp) : D → V → Prop
  | .non, v => v = .non
  | .bl b, v => v = .bl b
  | .int i, v => v = .int i
  | .str s, v => v = .str s
  | .tup ds, v => ∃ a xs, v = .ref a ∧ SqT K H a xs ∧ IsDs K m H ds xs
  | .loc l, v => ∃ a, m[l]? = some a ∧ v = .ref a
def IsDs (K : PySem.W.Frag) (m : List Addr) (H : Hp) : List D → List V → Prop
  | [], xs => xs = []
  | d :: ds, xs => ∃ x r, xs = x :: r ∧ IsD K m H d x ∧ IsDs K m H ds r
end
def Sub (m m' : List Addr) : Prop := ∀ (l : Nat) (a : Addr), m[l]? = some a → m'[l]? = some a
structure Tr (H H' : Hp) : Prop where
  tup : ∀ b xs, H b = some (.tup xs) → H' b = some (.tup xs)
  frz : ∀ b o u, H b = some (.frz o u) → H' b = some (.frz o u)
theorem Sub.refl (m : List Addr) : Sub m m := fun _ _ h => h
theorem Sub.trans {m m1 m2 : List Addr} (a : Sub m m1) (b : Sub m1 m2) : Sub m m2 := fun l x h => b l x (a l x h)
theorem Sub.app (m r : List Addr) : Sub m (m ++ r) := fun l a h => by
  rw [List.getElem?_append_left (List.getElem?_eq_some_iff.mp h).1]; exact h
theorem Tr.refl (H : Hp) : Tr H H := ⟨fun _ _ h => h, fun _ _ _ h => h⟩
theorem Tr.trans {H H1 H2 : Hp} (a : Tr H H1) (b : Tr H1 H2) : Tr H H2 := ⟨fun c xs h => b.tup c xs (a.tup c xs h), fun c o u h => b.frz c o u (a.frz c o u h)⟩
theorem Tr.of_same {H H' : Hp} (h : Same H H') : Tr H H' := ⟨fun b xs e => h b _ e, fun b o u e => h b _ e⟩
theorem same_new {H : Hp} {p : Addr} {o : HO} (hp : H p = none) : Same H (upd H p o) := fun b u e => by
  rw [upd_ne (ne_of_none e hp)]; exact e
theorem Tr.put {H : Hp} {p : Addr} {xs ys : List V} (hp : H p = some (.lst xs)) : Tr H (upd H p (.lst ys)) :=
  ⟨fun b zs e => by rw [upd_ne (ne_of e hp (by intro z; cases z))]; exact e, fun b o u e => by rw [upd_ne (ne_of e hp (by intro z; cases z))]; exact e⟩
theorem Tr.sqT {K : PySem.W.Frag} {H H' : Hp} {a : Addr} {xs : List V} (t : Tr H H') (h : SqT K H a xs) : SqT K H' a xs := by
  rcases h with (h | ⟨o, h⟩) | h
  · exact .inl (.inl (t.tup _ _ h))
  · exact .inl (.inr ⟨o, t.frz _ _ _ h⟩)
  · exact .inr h
section
variable {K : PySem.W.Frag} {m m' : List Addr} {H H' : Hp}
mutual
theorem isD_mono (hs : Sub m m') (ht : Tr H H') : ∀ (d : D) (v : V), IsD K m H d v → IsD K m' H' d v
  | .non, _, h => h
  | .bl _, _, h => h
  | .int _, _, h => h
  | .str _, _, h => h
  | .tup ds, _, h => by
    unfold IsD at h ⊢
    obtain ⟨a, xs, e, q, r⟩ := h
    exact ⟨a, xs, e, ht.sqT q, isDs_mono hs ht ds xs r⟩
  | .loc l, _, h => by
    unfold IsD at h ⊢
    obtain ⟨a, e, q⟩ := h
    exact ⟨a, hs l a e, q⟩
theorem isDs_mono (hs : Sub m m') (ht : Tr H H') : ∀ (ds : List D) (xs : List V), IsDs K m H ds xs → IsDs K m' H' ds xs
  | [], _, h => h
  | d :: ds, _, h => by
    unfold IsDs at h ⊢
    obtain ⟨x, r, e, q, t⟩ := h
    exact ⟨x, r, e, isD_mono hs ht d x q, isDs_mono hs ht ds r t⟩
end
theorem IsD.int {i : Int} {v : V} (h : IsD K m H (.int i) v) : v = .int i := by unfold IsD at h; exact h
theorem IsD.bl {i : Bool} {v : V} (h : IsD K m H (.bl i) v) : v = .bl i := by unfold IsD at h; exact h
theorem IsD.str {i : Str} {v : V} (h : IsD K m H (.str i) v) : v = .str i := by unfold IsD at h; exact h
theorem IsD.non {v : V} (h : IsD K m H .non v) : v = .non := by unfold IsD at h; exact h
theorem IsD.tup {ds : List D} {v : V} (h : IsD K m H (.tup ds) v) : ∃ a xs, v = .ref a ∧ SqT K H a xs ∧ IsDs K m H ds xs := by unfold IsD at h; exact h
theorem IsD.loc {l : Nat} {v : V} (h : IsD K m H (.loc l) v) : ∃ a, m[l]? = some a ∧ v = .ref a := by unfold IsD at h; exact h
theorem mkInt (i : Int) : IsD K m H (.int i) (.int i) := by unfold IsD; rfl
theorem mkBl (i : Bool) : IsD K m H (.bl i) (.bl i) := by unfold IsD; rfl
theorem mkStr (i : Str) : IsD K m H (.str i) (.str i) := by unfold IsD; rfl
theorem mkNon : IsD K m H .non .non := by unfold IsD; rfl
theorem mkTup {ds : List D} {a : Addr} {xs : List V} (h : SqT K H a xs) (q : IsDs K m H ds xs) : IsD K m H (.tup ds) (.ref a) := by unfold IsD; exact ⟨a, xs, rfl, h, q⟩
theorem mkLoc {l : Nat} {a : Addr} (h : m[l]? = some a) : IsD K m H (.loc l) (.ref a) := by unfold IsD; exact ⟨a, h, rfl⟩
theorem IsDs.nil {xs : List V} (h : IsDs K m H [] xs) : xs = [] := by unfold IsDs at h; exact h
theorem IsDs.cons {d : D} {ds : List D} {xs : List V} (h : IsDs K m H (d :: ds) xs) : ∃ x r, xs = x :: r ∧ IsD K m H d x ∧ IsDs K m H ds r := by unfold IsDs at h; exact h
theorem mkNil : IsDs K m H [] [] := by unfold IsDs; rfl
theorem mkCons {d : D} {ds : List D} {x : V} {r : List V} (h : IsD K m H d x) (t : IsDs K m H ds r) : IsDs K m H (d :: ds) (x :: r) := by unfold IsDs; exact ⟨x, r, rfl, h, t⟩
theorem IsDs.one {d : D} {xs : List V} (h : IsDs K m H [d] xs) : ∃ x, xs = [x] ∧ IsD K m H d x := by
  obtain ⟨x, r, rfl, q, t⟩ := h.cons
  rw [t.nil]
  exact ⟨x, rfl, q⟩
theorem IsDs.two {d e : D} {xs : List V} (h : IsDs K m H [d, e] xs) : ∃ x y, xs = [x, y] ∧ IsD K m H d x ∧ IsD K m H e y := by
  obtain ⟨x, r, rfl, q, t⟩ := h.cons
  obtain ⟨y, rfl, q'⟩ := t.one
  exact ⟨x, y, rfl, q, q'⟩
theorem IsDs.length : ∀ {ds : List D} {xs : List V}, IsDs K m H ds xs → ds.length = xs.length
  | [], _, h => by rw [h.nil]; rfl
  | _ :: _, _, h => by
    obtain ⟨x, r, rfl, _, t⟩ := h.cons
    rw [List.length_cons, List.length_cons, t.length]
theorem IsDs.get : ∀ {ds : List D} {xs : List V} {i : Nat} {d : D}, IsDs K m H ds xs → ds[i]? = some d → ∃ x, xs[i]? = some x ∧ IsD K m H d x
  | [], _, _, _, _, e => by simp at e
  | d :: ds, _, 0, d', h, e => by
    obtain ⟨x, r, rfl, q, _⟩ := h.cons
    have e' : d = d' := by simpa using e
    subst e'
    exact ⟨x, rfl, q⟩
  | d :: ds, _, i + 1, d', h, e => by
    obtain ⟨x, r, rfl, _, t⟩ := h.cons
    obtain ⟨y, e1, e2⟩ := t.get (i := i) (d := d') (by simpa using e)
    exact ⟨y, by simpa using e1, e2⟩
theorem IsDs.back : ∀ {ds : List D} {xs : List V} {i : Nat} {x : V}, IsDs K m H ds xs → xs[i]? = some x → ∃ d, ds[i]? = some d ∧ IsD K m H d x := fun {ds xs i x} h e => by
  have hl := h.length
  have hi := (List.getElem?_eq_some_iff.mp e).1
  have e2 : ds[i]? = some (ds[i]'(by omega)) := by simp
  obtain ⟨y, e3, q⟩ := h.get e2
  rw [e] at e3
  cases e3
  exact ⟨_, e2, q⟩
theorem IsDs.append : ∀ {ds es : List D} {xs ys : List V}, IsDs K m H ds xs → IsDs K m H es ys → IsDs K m H (ds ++ es) (xs ++ ys)
  | [], _, _, _, h, q => by rw [h.nil]; exact q
  | _ :: _, _, _, _, h, q => by
    obtain ⟨x, r, rfl, a, t⟩ := h.cons
    exact mkCons a (t.append q)
theorem IsDs.set : ∀ {ds : List D} {xs : List V} (i : Nat) {d : D} {x : V}, IsDs K m H ds xs → IsD K m H d x → IsDs K m H (ds.set i d) (xs.set i x)
  | [], _, _, _, _, h, _ => by rw [h.nil]; exact mkNil
  | _ :: _, _, 0, _, _, h, q => by
    obtain ⟨x, r, rfl, a, t⟩ := h.cons
    exact mkCons q t
  | _ :: _, _, i + 1, _, _, h, q => by
    obtain ⟨x, r, rfl, a, t⟩ := h.cons
    exact mkCons a (t.set i q)
end

/-! ### the store -/
/-- a list that is never written -/
def SqF (K : PySem.W.Frag) (H : Hp) (a : Addr) (xs : List V) : Prop :=
  (∃ o, H a = some (.frz o (.lst xs))) ∨ ∃ (o : Obj) (its : Array Value) (n : Nat), K.lookup a = some o ∧ o.cls = .type "list" ∧ o.dict = none ∧ o.data = .seq its n ∧ its.size ≤ sizeLine ∧ Vals xs its.toList
theorem SqF.sq {K : PySem.W.Frag} {H : Hp} {a : Addr} {xs : List V} (h : SqF K H a xs) : SqL K H a xs := by
  rcases h with h | h
  · exact .inl (.inr h)
  · exact .inr h
theorem Tr.sqF {K : PySem.W.Frag} {H H' : Hp} {a : Addr} {xs : List V} (t : Tr H H') (h : SqF K H a xs) : SqF K H' a xs := by
  rcases h with ⟨o, h⟩ | h
  · exact .inl ⟨o, t.frz _ _ _ h⟩
  · exact .inr h
def IsC (K : PySem.W.Frag) (m : List Addr) (H : Hp) : Cell → Addr → Prop
  | .lst true ds, a => ∃ xs, H a = some (.lst xs) ∧ IsDs K m H ds xs
  | .lst false ds, a => ∃ xs, SqF K H a xs ∧ IsDs K m H ds xs
def Wr : Cell → Bool
  | .lst w _ => w
structure Rel (K : PySem.W.Frag) (m : List Addr) (st : Store) (H : Hp) : Prop where
  len : m.length = st.length
  nd : ∀ (l l' : Nat) (a : Addr) (c c' : Cell), m[l]? = some a → m[l']? = some a → st[l]? = some c → st[l']? = some c' → Wr c = true → Wr c' = true → l = l'
  cell : ∀ (l : Nat) (c : Cell) (a : Addr), st[l]? = some c → m[l]? = some a → IsC K m H c a
section
variable {K : PySem.W.Frag} {m : List Addr} {st : Store} {H : Hp}
theorem Rel.addr (h : Rel K m st H) {l : Nat} {c : Cell} (e : st[l]? = some c) : ∃ a, m[l]? = some a := by
  have hl := (List.getElem?_eq_some_iff.mp e).1
  have := h.len
  exact ⟨m[l]'(by omega), by simp⟩
theorem IsC.wr {c : Cell} {a : Addr} (h : IsC K m H c a) (w : Wr c = true) : ∃ xs, H a = some (.lst xs) := by
  cases c with
  | lst w' ds =>
    have e : w' = true := w
    subst e
    obtain ⟨xs, e, _⟩ := h
    exact ⟨xs, e⟩
/-- what a list's place tells -/
theorem Rel.list (h : Rel K m st H) {l : Nat} {ds : List D} {v : V} (e : M.listAt st l = some ds) (hv : IsD K m H (.loc l) v) : ∃ a xs, m[l]? = some a ∧ v = .ref a ∧ SqL K H a xs ∧ IsDs K m H ds xs := by
  obtain ⟨a, ha, rfl⟩ := hv.loc
  unfold M.listAt at e
  split at e
  · rename_i w ds' q
    cases e
    have c := h.cell l _ a q ha
    cases w with
    | true =>
      obtain ⟨xs, e1, e2⟩ := c
      exact ⟨a, xs, ha, rfl, SqL.of e1, e2⟩
    | false =>
      obtain ⟨xs, e1, e2⟩ := c
      exact ⟨a, xs, ha, rfl, e1.sq, e2⟩
  · cases e
theorem Rel.wlist (h : Rel K m st H) {l : Nat} {ds : List D} {v : V} (e : M.wlistAt st l = some ds) (hv : IsD K m H (.loc l) v) : ∃ a xs, m[l]? = some a ∧ v = .ref a ∧ H a = some (.lst xs) ∧ IsDs K m H ds xs ∧ st[l]? = some (.lst true ds) := by
  obtain ⟨a, ha, rfl⟩ := hv.loc
  unfold M.wlistAt at e
  split at e
  · rename_i ds' q
    cases e
    obtain ⟨xs, e1, e2⟩ := h.cell l _ a q ha
    exact ⟨a, xs, ha, rfl, e1, e2, q⟩
  · cases e
theorem isC_mono {m' : List Addr} {H' : Hp} (hs : Sub m m') (ht : Tr H H') {c : Cell} {a : Addr} (h : IsC K m H c a) (hw : Wr c = true → H' a = H a) : IsC K m' H' c a := by
  cases c with
  | lst w ds =>
    cases w with
    | true =>
      obtain ⟨xs, e, q⟩ := h
      exact ⟨xs, (hw rfl).trans e, isDs_mono hs ht ds xs q⟩
    | false =>
      obtain ⟨xs, e, q⟩ := h
      exact ⟨xs, ht.sqF e, isDs_mono hs ht ds xs q⟩
theorem Rel.same (h : Rel K m st H) {H' : Hp} (s : Same H H') : Rel K m st H' :=
  ⟨h.len, h.nd, fun l c a e ea => isC_mono (Sub.refl m) (Tr.of_same s) (h.cell l c a e ea) fun w => by
    obtain ⟨xs, q⟩ := (h.cell l c a e ea).wr w
    rw [q]; exact s _ _ q⟩
/-- a new list -/
theorem Rel.new (h : Rel K m st H) {p : Addr} {ds : List D} {xs : List V} (hp : H p = none) (hd : IsDs K m H ds xs) : Rel K (m ++ [p]) (st ++ [.lst true ds]) (upd H p (.lst xs)) := by
  have ht : Tr H (upd H p (.lst xs)) := Tr.of_same (same_new hp)
  have old : ∀ (l : Nat) (c : Cell) (a : Addr), (st ++ [.lst true ds])[l]? = some c → (m ++ [p])[l]? = some a → (l < st.length ∧ st[l]? = some c ∧ m[l]? = some a) ∨ (l = st.length ∧ c = .lst true ds ∧ a = p) := by
    intro l c a e ea
    by_cases hl : l < st.length
    · rw [List.getElem?_append_left hl] at e
      rw [List.getElem?_append_left (by rw [h.len]; exact hl)] at ea
      exact .inl ⟨hl, e, ea⟩
    · have hlt := (List.getElem?_eq_some_iff.mp e).1
      rw [List.length_append, List.length_singleton] at hlt
      have e1 : l = st.length := by omega
      subst e1
      rw [List.getElem?_append_right (Nat.le_refl _)] at e
      rw [List.getElem?_append_right (by rw [h.len]; exact Nat.le_refl _), h.len] at ea
      have e2 : Cell.lst true ds = c := by simpa using e
      have e3 : p = a := by simpa using ea
      exact .inr ⟨rfl, e2.symm, e3.symm⟩
  refine ⟨by simp [h.len], fun l l' a c c' e1 e2 e3 e4 w w' => ?_, fun l c a e ea => ?_⟩
  · rcases old l c a e3 e1 with ⟨h1, q1, r1⟩ | ⟨h1, q1, r1⟩ <;> rcases old l' c' a e4 e2 with ⟨h2, q2, r2⟩ | ⟨h2, q2, r2⟩
    · exact h.nd l l' a c c' r1 r2 q1 q2 w w'
    · obtain ⟨ys, z⟩ := (h.cell l c a q1 r1).wr w
      rw [r2, hp] at z; cases z
    · obtain ⟨ys, z⟩ := (h.cell l' c' a q2 r2).wr w'
      rw [r1, hp] at z; cases z
    · rw [h1, h2]
  · rcases old l c a e ea with ⟨h1, q1, r1⟩ | ⟨h1, q1, r1⟩
    · refine isC_mono (Sub.app m [p]) ht (h.cell l c a q1 r1) fun w => ?_
      obtain ⟨ys, z⟩ := (h.cell l c a q1 r1).wr w
      exact upd_ne (ne_of_none z hp)
    · rw [q1, r1]
      exact ⟨xs, upd_same, isDs_mono (Sub.app m [p]) ht ds xs hd⟩
theorem Rel.newLoc (h : Rel K m st H) {p : Addr} {H' : Hp} : IsD K (m ++ [p]) H' (.loc st.length) (.ref p) := mkLoc (by
  rw [List.getElem?_append_right (by rw [h.len]; exact Nat.le_refl _), h.len]; simp)
/-- a list is written -/
theorem Rel.put (h : Rel K m st H) {l : Nat} {a : Addr} {ds ds' : List D} {xs ys : List V} (e : st[l]? = some (.lst true ds)) (ea : m[l]? = some a) (hH : H a = some (.lst xs)) (hd : IsDs K m H ds' ys) :
    Rel K m (st.set l (.lst true ds')) (upd H a (.lst ys)) := by
  have ht : Tr H (upd H a (.lst ys)) := Tr.put hH
  have hl := (List.getElem?_eq_some_iff.mp e).1
  have wr : ∀ (j : Nat) (c : Cell), (st.set l (.lst true ds'))[j]? = some c → (j = l ∧ c = .lst true ds') ∨ (j ≠ l ∧ st[j]? = some c) := by
    intro j c q
    by_cases hj : j = l
    · subst hj
      rw [List.getElem?_set_self hl] at q
      exact .inl ⟨rfl, (Option.some.inj q).symm⟩
    · rw [List.getElem?_set_ne (Ne.symm hj)] at q
      exact .inr ⟨hj, q⟩
  refine ⟨by rw [List.length_set]; exact h.len, fun j j' b c c' e1 e2 e3 e4 w w' => ?_, fun j c b q eb => ?_⟩
  · rcases wr j c e3 with ⟨a1, b1⟩ | ⟨a1, b1⟩ <;> rcases wr j' c' e4 with ⟨a2, b2⟩ | ⟨a2, b2⟩
    · rw [a1, a2]
    · subst a1; exact h.nd _ _ b _ _ e1 e2 e b2 rfl w'
    · subst a2; exact h.nd _ _ b _ _ e1 e2 b1 e w rfl
    · exact h.nd _ _ b _ _ e1 e2 b1 b2 w w'
  · rcases wr j c q with ⟨a1, b1⟩ | ⟨a1, b1⟩
    · subst a1 b1
      rw [ea] at eb; cases eb
      exact ⟨ys, upd_same, isDs_mono (Sub.refl m) ht ds' ys hd⟩
    · refine isC_mono (Sub.refl m) ht (h.cell j c b b1 eb) fun w => upd_ne fun z => ?_
      subst z
      exact a1 (h.nd _ _ b _ _ eb ea b1 e w rfl)
end

/-! ### readings by data -/
structure SlotOk (K : PySem.W.Frag) (m : List Addr) (H : Hp) (τ : Sl) (σ : L2.St) : Prop where
  len : τ.length = σ.length
  at_ : ∀ (i : Nat) (d : D), τ[i]? = some (some d) → ∃ v, σ[i]? = some (some v) ∧ IsD K m H d v
theorem SlotOk.mono {K : PySem.W.Frag} {m m' : List Addr} {H H' : Hp} {τ : Sl} {σ : L2.St} (h : SlotOk K m H τ σ) (s : Sub m m') (t : Tr H H') : SlotOk K m' H' τ σ :=
  ⟨h.len, fun i d e => let ⟨v, a, b⟩ := h.at_ i d e; ⟨v, a, isD_mono s t d v b⟩⟩
theorem SlotOk.put {K : PySem.W.Frag} {m : List Addr} {H : Hp} {τ : Sl} {σ : L2.St} (h : SlotOk K m H τ σ) {i : Nat} {d : D} {v : V} (q : IsD K m H d v) : SlotOk K m H (τ.set i (some d)) (σ.set i (some v)) := by
  refine ⟨by rw [List.length_set, List.length_set]; exact h.len, fun j e ej => ?_⟩
  by_cases hj : i = j
  · subst hj
    have hi : i < τ.length := by
      have := (List.getElem?_eq_some_iff.mp ej).1
      rwa [List.length_set] at this
    rw [List.getElem?_set_self hi] at ej
    cases ej
    exact ⟨v, List.getElem?_set_self (by rw [← h.len]; exact hi), q⟩
  · rw [List.getElem?_set_ne hj] at ej ⊢
    exact h.at_ j e ej
/-- what is wanted behind -/
def Post (K : PySem.W.Frag) (m : List Addr) (H : Hp) (d : D) (st' : Store) (Q : VK) : Prop := ∀ v m' H', Sub m m' → Tr H H' → Rel K m' st' H' → IsD K m' H' d v → Q v H'
def PostB (K : PySem.W.Frag) (m : List Addr) (H : Hp) (b : Bool) (st' : Store) (Q : Bool → Hp → Prop) : Prop := ∀ m' H', Sub m m' → Tr H H' → Rel K m' st' H' → Q b H'
def PostL (K : PySem.W.Frag) (m : List Addr) (H : Hp) (ds : List D) (st' : Store) (Q : List V → Hp → Prop) : Prop := ∀ vs m' H', Sub m m' → Tr H H' → Rel K m' st' H' → IsDs K m' H' ds vs → Q vs H'
theorem Post.mono {K : PySem.W.Frag} {m m1 : List Addr} {H H1 : Hp} {d : D} {st' : Store} {Q : VK} (p : Post K m H d st' Q) (s : Sub m m1) (t : Tr H H1) : Post K m1 H1 d st' Q :=
  fun v m' H' s' t' r i => p v m' H' (s.trans s') (t.trans t') r i
theorem Post.here {K : PySem.W.Frag} {m : List Addr} {H : Hp} {d : D} {st' : Store} {Q : VK} {v : V} (p : Post K m H d st' Q) (r : Rel K m st' H) (i : IsD K m H d v) : Q v H := p v m H (Sub.refl m) (Tr.refl H) r i
def tD (K : PySem.W.Frag) (f : Sl → Store → Option (D × Store)) : TE := fun σ H Q => ∃ m st τ d st', Rel K m st H ∧ SlotOk K m H τ σ ∧ f τ st = some (d, st') ∧ Post K m H d st' Q
def tTs (K : PySem.W.Frag) (f : Sl → Store → Option (Bool × Store)) : TT := fun σ H Q => ∃ m st τ d st', Rel K m st H ∧ SlotOk K m H τ σ ∧ f τ st = some (d, st') ∧ PostB K m H d st' Q
def tL (K : PySem.W.Frag) (f : Sl → Store → Option (List D × Store)) : TA := fun σ H Q => ∃ m st τ d st', Rel K m st H ∧ SlotOk K m H τ σ ∧ f τ st = some (d, st') ∧ PostL K m H d st' Q
def rD (K : PySem.W.Frag) (g : Store → D → D → Option (D × Store)) : R2 := fun x y H Q => ∃ m st a b d st', Rel K m st H ∧ IsD K m H a x ∧ IsD K m H b y ∧ g st a b = some (d, st') ∧ Post K m H d st' Q
def rC (K : PySem.W.Frag) (g : Store → List D → Option (D × Store)) : List V → Hp → VK → Prop := fun xs H Q => ∃ m st ds d st', Rel K m st H ∧ IsDs K m H ds xs ∧ g st ds = some (d, st') ∧ Post K m H d st' Q
def rU1 (K : PySem.W.Frag) (g : Store → D → Option (D × Store)) : V → Hp → VK → Prop := fun x H Q => ∃ m st a d st', Rel K m st H ∧ IsD K m H a x ∧ g st a = some (d, st') ∧ Post K m H d st' Q
theorem _root_.L2.PE.imp {X : Cx} {e : Expr} {t t' : TE} (h : PE X e t) (f : ∀ σ H Q, t' σ H Q → t σ H Q) : PE X e t' := fun pins s σ H Q I q => h pins s σ H Q I (f σ H Q q)
theorem _root_.L2.PT.imp {X : Cx} {e : Expr} {t t' : TT} (h : PT X e t) (f : ∀ σ H Q, t' σ H Q → t σ H Q) : PT X e t' := fun pins s σ H Q I q => h pins s σ H Q I (f σ H Q q)
theorem _root_.L2.PW.imp {X : Cx} {e : Expr} {t t' : TT} (h : PW X e t) (f : ∀ σ H Q, t' σ H Q → t σ H Q) : PW X e t' := fun w pins s σ H Q I q => h w pins s σ H Q I (f σ H Q q)
theorem _root_.L2.PA.imp {X : Cx} {e : List Expr} {t t' : TA} (h : PA X e t) (f : ∀ σ H Q, t' σ H Q → t σ H Q) : PA X e t' := fun p pins s σ H Q I q => h p pins s σ H Q I (f σ H Q q)
theorem _root_.L2.PS.imp {X : Cx} {e : Stmt} {t t' : TS} (h : PS X e t) (f : ∀ σ H Q, t' σ H Q → t σ H Q) : PS X e t' := fun pins s σ H Q I q => h pins s σ H Q I (f Q σ H q)
theorem _root_.L2.PSs.imp {X : Cx} {e : List Stmt} {t t' : TS} (h : PSs X e t) (f : ∀ D σ H, t' D σ H → t D σ H) : PSs X e t' := fun pins s σ H D I q => h pins s σ H D I (f D σ H q)
/-- one thing after another -/
theorem bindD {α : Type} {f : Option (D × Store)} {g : D × Store → Option α} {r : α} (e : f.bind g = some r) : ∃ d st, f = some (d, st) ∧ g (d, st) = some r := by
  cases f with
  | none => cases e
  | some p => exact ⟨p.1, p.2, rfl, e⟩
theorem mapD {α β : Type} {f : Option α} {g : α → β} {r : β} (e : f.map g = some r) : ∃ d, f = some d ∧ g d = r := by
  cases f with
  | none => cases e
  | some p => exact ⟨p, rfl, Option.some.inj e⟩
theorem bindO {α β : Type} {f : Option α} {g : α → Option β} {r : β} (e : f.bind g = some r) : ∃ d, f = some d ∧ g d = some r := by
  cases f with
  | none => cases e
  | some p => exact ⟨p, rfl, e⟩
section
variable {K : PySem.W.Frag}
theorem tD_bin {fa fb : Sl → Store → Option (D × Store)} {g : Store → D → D → Option (D × Store)} {σ : L2.St} {H : Hp} {Q : VK}
    (h : tD K (fun τ st => (fa τ st).bind fun p => (fb τ p.2).bind fun q => g q.2 p.1 q.1) σ H Q) : tOp (rD K g) (tD K fa) (tD K fb) σ H Q := by
  obtain ⟨m, st, τ, d, st', R0, S0, e, q⟩ := h
  obtain ⟨d1, s1, e1, e⟩ := bindD e
  obtain ⟨d2, s2, e2, e⟩ := bindD e
  exact ⟨m, st, τ, d1, s1, R0, S0, e1, fun x m1 H1 b1 t1 R1 i1 => ⟨m1, s1, τ, d2, s2, R1, S0.mono b1 t1, e2, fun y m2 H2 b2 t2 R2 i2 =>
    ⟨m2, s2, d1, d2, d, st', R2, isD_mono b2 t2 _ _ i1, i2, e, q.mono (b1.trans b2) (t1.trans t2)⟩⟩⟩
theorem tD_un {fa : Sl → Store → Option (D × Store)} {g : Store → D → Option (D × Store)} {σ : L2.St} {H : Hp} {Q : VK}
    (h : tD K (fun τ st => (fa τ st).bind fun p => g p.2 p.1) σ H Q) : tUn (rU1 K g) (tD K fa) σ H Q := by
  obtain ⟨m, st, τ, d, st', R0, S0, e, q⟩ := h
  obtain ⟨d1, s1, e1, e⟩ := bindD e
  exact ⟨m, st, τ, d1, s1, R0, S0, e1, fun x m1 H1 b1 t1 R1 i1 => ⟨m1, s1, d1, d, st', R1, i1, e, q.mono b1 t1⟩⟩
theorem tL_cons {fa : Sl → Store → Option (D × Store)} {fr : Sl → Store → Option (List D × Store)} {σ : L2.St} {H : Hp} {Q : List V → Hp → Prop}
    (h : tL K (fun τ st => (fa τ st).bind fun p => (fr τ p.2).bind fun q => some (p.1 :: q.1, q.2)) σ H Q) : tCons (tD K fa) (tL K fr) σ H Q := by
  obtain ⟨m, st, τ, d, st', R0, S0, e, q⟩ := h
  obtain ⟨d1, s1, e1, e⟩ := bindD e
  obtain ⟨p, e2, e⟩ := bindO e
  cases e
  exact ⟨m, st, τ, d1, s1, R0, S0, e1, fun x m1 H1 b1 t1 R1 i1 => ⟨m1, s1, τ, p.1, p.2, R1, S0.mono b1 t1, e2, fun xs m2 H2 b2 t2 R2 i2 =>
    q _ m2 H2 (b1.trans b2) (t1.trans t2) R2 (mkCons (isD_mono b2 t2 _ _ i1) i2)⟩⟩
theorem tL_nil {σ : L2.St} {H : Hp} {Q : List V → Hp → Prop} (h : tL K (fun _ st => some ([], st)) σ H Q) : tNil σ H Q := by
  obtain ⟨m, st, τ, d, st', R0, S0, e, q⟩ := h
  cases e
  exact q [] m H (Sub.refl m) (Tr.refl H) R0 mkNil
theorem tL_call {fa : Sl → Store → Option (List D × Store)} {g : Store → List D → Option (D × Store)} {σ : L2.St} {H : Hp} {Q : VK}
    (h : tD K (fun τ st => (fa τ st).bind fun p => g p.2 p.1) σ H Q) : tCB (rC K g) (tL K fa) σ H Q := by
  obtain ⟨m, st, τ, d, st', R0, S0, e, q⟩ := h
  obtain ⟨p, e1, e⟩ := bindO e
  exact ⟨m, st, τ, p.1, p.2, R0, S0, e1, fun xs m1 H1 b1 t1 R1 i1 => ⟨m1, p.2, p.1, d, st', R1, i1, e, q.mono b1 t1⟩⟩
end
end MS
end
section
set_option linter.all false
set_option Elab.async false
set_option maxRecDepth 100000
set_option maxHeartbeats 4000000
namespace MS
open PySem PySem.Spec PyProof.Rows L2
open M (D Cell Store Sl)
section
variable {X : Cx}
theorem lim_eq : (sizeLine : Nat) = M.lim := sizeLine_eq
/-! ### two-place operations -/
theorem op_fdiv64 : OpR X (binaryOp .FloorDiv) (rI (fun _ j => 0 < j ∧ j < 2 ^ 64) fun i j => .int (i / j)) := opI fun i j _ _ _ _ _ hc q => by
  have h1 : (0 : Int) < j := hc.1
  have h2 : j < 2 ^ 64 := hc.2
  refine floordiv_int (by omega) (by rw [Int.fdiv_eq_ediv_of_nonneg i (by omega)]; exact q) (.inl (PyProof.noPylong_of_log2 ?_))
  have h3 : j.natAbs < 2 ^ 64 := by omega
  have h4 : j.natAbs ≠ 0 := by omega
  have h5 : j.natAbs.log2 < 64 := (Nat.log2_lt h4).mpr h3
  omega
theorem _root_.MS.IsDs.rep {K : PySem.W.Frag} {m : List Addr} {H : Hp} {ds : List D} {xs : List V} (h : IsDs K m H ds xs) : ∀ k : Nat, IsDs K m H (List.replicate k ds).flatten (List.replicate k xs).flatten
  | 0 => by simp only [List.replicate_zero, List.flatten_nil]; exact mkNil
  | k + 1 => by
    rw [List.replicate_succ, List.replicate_succ, List.flatten_cons, List.flatten_cons]
    exact h.append (IsDs.rep h k)
theorem op_binD (op : Operator) : OpR X (binaryOp op) (rD X.K fun st a b => M.binop st op a b) := by
  intro pins s σ H x y v u Q I rx ry h
  obtain ⟨m, st, a, b, d, st', R0, i1, i2, e, q⟩ := h
  have e : M.binop st op a b = some (d, st') := e
  unfold M.binop at e
  split at e
  · cases e
    exact op_add pins s σ H x y v u Q I rx ry ⟨_, _, i1.int, i2.int, q.here R0 (mkInt _)⟩
  · rename_i as bs
    split at e
    · cases e
    · rename_i hc
      cases e
      rw [Bool.or_eq_true, decide_eq_true_eq, not_or, List.isEmpty_iff] at hc
      obtain ⟨pa, xs, rfl, hx, ix⟩ := i1.tup
      obtain ⟨pb, ys, rfl, hy, iy⟩ := i2.tup
      have l1 := ix.length
      have l2 := iy.length
      have l3 := lim_eq
      refine op_catT pins s σ H _ _ v u Q I rx ry ⟨pa, pb, xs, ys, rfl, rfl, hx, hy, ?_, by omega, fun z => ?_, fun z p hp => ?_⟩
      · intro z
        subst z
        exact hc.1 (List.length_eq_zero_iff.mp l1)
      · have i3 := ix.append iy
        rw [z, List.append_nil] at i3
        exact q.here R0 (mkTup hx i3)
      · have sm := same_new (o := .tup (xs ++ ys)) hp
        exact q _ m _ (Sub.refl m) (Tr.of_same sm) (R0.same sm) (mkTup (SqT.of upd_same) (isDs_mono (Sub.refl m) (Tr.of_same sm) _ _ (ix.append iy)))
  · rename_i la lb
    obtain ⟨ds1, e1, e⟩ := bindO e
    obtain ⟨ds2, e2, e⟩ := bindO e
    split at e
    · cases e
    · rename_i hc
      cases e
      obtain ⟨pa, xs, m1, rfl, hx, ix, _⟩ := R0.wlist e1 i1
      obtain ⟨pb, ys, m2, rfl, hy, iy, _⟩ := R0.wlist e2 i2
      have l1 := ix.length
      have l2 := iy.length
      have l3 := lim_eq
      refine op_cat pins s σ H _ _ v u Q I rx ry ⟨pa, pb, xs, ys, rfl, rfl, hx, hy, by omega, fun p hp => ?_⟩
      exact q _ (m ++ [p]) _ (Sub.app m [p]) (Tr.of_same (same_new hp)) (R0.new hp (ix.append iy)) R0.newLoc
  · split at e
    · cases e
    · rename_i hc
      cases e
      have l3 := lim_eq
      exact op_add_str pins s σ H x y v u Q I rx ry ⟨_, _, i1.str, i2.str, by omega, q.here R0 (mkStr _)⟩
  · cases e
    exact op_sub pins s σ H x y v u Q I rx ry ⟨_, _, i1.int, i2.int, q.here R0 (mkInt _)⟩
  · split at e
    · rename_i hc
      cases e
      refine op_mul pins s σ H x y v u Q I rx ry ⟨_, _, i1.int, i2.int, ?_, q.here R0 (mkInt _)⟩
      unfold M.mulOk at hc
      simp only [Bool.or_eq_true, Bool.and_eq_true, decide_eq_true_eq] at hc
      exact hc
    · cases e
  · rename_i as k _
    split at e
    · cases e
    · rename_i hc
      cases e
      simp only [Bool.or_eq_true, decide_eq_true_eq, not_or] at hc
      obtain ⟨pa, xs, rfl, hx, ix⟩ := i1.tup
      have l1 := ix.length
      have l3 := lim_eq
      refine op_repT pins s σ H _ _ v u Q I rx ry ⟨pa, k, xs, rfl, i2.int, hx, by omega, by omega, by rw [← l1]; omega, fun ys hy => ⟨fun z => ?_, fun p hp => ?_⟩⟩
      · have i3 := ix.rep k.toNat
        rw [← hy, z] at i3
        exact q.here R0 (mkTup hx i3)
      · have sm := same_new (o := .tup ys) hp
        have i3 := ix.rep k.toNat
        rw [← hy] at i3
        exact q _ m _ (Sub.refl m) (Tr.of_same sm) (R0.same sm) (mkTup (SqT.of upd_same) (isDs_mono (Sub.refl m) (Tr.of_same sm) _ _ i3))
  · rename_i la k _
    obtain ⟨ds1, e1, e⟩ := bindO e
    split at e
    · cases e
    · rename_i hc
      cases e
      simp only [Bool.or_eq_true, decide_eq_true_eq, not_or] at hc
      obtain ⟨pa, xs, m1, rfl, hx, ix, _⟩ := R0.wlist e1 i1
      have l1 := ix.length
      have l3 := lim_eq
      refine op_rep pins s σ H _ _ v u Q I rx ry ⟨pa, k, xs, rfl, i2.int, hx, by omega, by omega, by rw [← l1]; omega, fun p hp => ?_⟩
      exact q _ (m ++ [p]) _ (Sub.app m [p]) (Tr.of_same (same_new hp)) (R0.new hp (ix.rep k.toNat)) R0.newLoc
  · split at e
    · rename_i hc
      cases e
      exact op_fdiv64 pins s σ H x y v u Q I rx ry ⟨_, _, i1.int, i2.int, hc, q.here R0 (mkInt _)⟩
    · cases e
  · split at e
    · rename_i hc
      cases e
      exact op_mod pins s σ H x y v u Q I rx ry ⟨_, _, i1.int, i2.int, hc, q.here R0 (mkInt _)⟩
    · cases e
  · split at e
    · rename_i hc
      cases e
      exact op_pow pins s σ H x y v u Q I rx ry ⟨_, _, i1.int, i2.int, ⟨hc.1, by omega, hc.2.2⟩, q.here R0 (mkInt _)⟩
    · cases e
  · cases e

/-! ### equality -/
theorem isD_tuple {pins : List (Addr × Obj)} {σ : L2.St} {H : Hp} {s : Shared} {m : List Addr} {ds : List D} {v : V} (I : Inv X pins σ H s) (h : IsD X.K m H (.tup ds) v) : ∃ a xs its, v = .ref a ∧ SqT X.K H a xs ∧ IsDs X.K m H ds xs ∧ Vals xs its ∧ IsTup s.heap a its.toArray := by
  obtain ⟨a, xs, rfl, hx, ix⟩ := h.tup
  obtain ⟨its, r, p, _⟩ := I.tuple hx
  exact ⟨a, xs, its, rfl, hx, ix, r, p⟩
section
variable {pins : List (Addr × Obj)} {σ : L2.St} {H : Hp} {s : Shared} {m : List Addr}
mutual
theorem isD_inj (I : Inv X pins σ H s) : ∀ (n : Nat) (d e : D) (v : V), M.flat n d = true → M.flat n e = true → IsD X.K m H d v → IsD X.K m H e v → d = e
  | n, .loc _, _, _, f, _, _, _ => by simp [M.flat] at f
  | n, .non, e, v, _, fe, h, h' => by
    rw [h.non] at h'
    cases e with
    | non => rfl
    | tup ds => obtain ⟨a, xs, z, _⟩ := h'.tup; cases z
    | loc l => simp [M.flat] at fe
    | bl b => cases h'.bl
    | int b => cases h'.int
    | str b => cases h'.str
  | n, .bl b, e, v, _, fe, h, h' => by
    rw [h.bl] at h'
    cases e with
    | non => cases h'.non
    | tup ds => obtain ⟨a, xs, z, _⟩ := h'.tup; cases z
    | loc l => simp [M.flat] at fe
    | bl b => cases h'.bl; rfl
    | int b => cases h'.int
    | str b => cases h'.str
  | n, .int b, e, v, _, fe, h, h' => by
    rw [h.int] at h'
    cases e with
    | non => cases h'.non
    | tup ds => obtain ⟨a, xs, z, _⟩ := h'.tup; cases z
    | loc l => simp [M.flat] at fe
    | bl b => cases h'.bl
    | int b => cases h'.int; rfl
    | str b => cases h'.str
  | n, .str b, e, v, _, fe, h, h' => by
    rw [h.str] at h'
    cases e with
    | non => cases h'.non
    | tup ds => obtain ⟨a, xs, z, _⟩ := h'.tup; cases z
    | loc l => simp [M.flat] at fe
    | bl b => cases h'.bl
    | int b => cases h'.int
    | str b => cases h'.str; rfl
  | 0, .tup ds, e, v, f, fe, h, h' => by simp [M.flat] at f
  | n + 1, .tup ds, e, v, f, fe, h, h' => by
    obtain ⟨a, xs, rfl, hx, ix⟩ := h.tup
    cases e with
    | non => cases h'.non
    | tup es =>
      obtain ⟨b, ys, z, hy, iy⟩ := h'.tup
      cases z
      have := I.tuple_inj hx hy
      subst this
      simp only [M.flat] at f fe
      rw [isDs_inj I n ds es xs f fe ix iy]
    | loc l => simp [M.flat] at fe
    | bl b => cases h'.bl
    | int b => cases h'.int
    | str b => cases h'.str
theorem isDs_inj (I : Inv X pins σ H s) : ∀ (n : Nat) (ds es : List D) (xs : List V), M.flats n ds = true → M.flats n es = true → IsDs X.K m H ds xs → IsDs X.K m H es xs → ds = es
  | n, [], es, xs, _, _, h, h' => by
    rw [h.nil] at h'
    exact (List.length_eq_zero_iff.mp h'.length).symm
  | n, d :: ds, es, xs, f, fe, h, h' => by
    obtain ⟨x, r, rfl, q, t⟩ := h.cons
    cases es with
    | nil => cases h'.nil
    | cons e es =>
      obtain ⟨x', r', z, q', t'⟩ := h'.cons
      cases z
      simp only [M.flats, Bool.and_eq_true] at f fe
      rw [isD_inj I n d e x f.1 fe.1 q q', isDs_inj I n ds es r f.2 fe.2 t t']
end
mutual
theorem eqT_refl : ∀ (n : Nat) (d : D), M.flat n d = true → M.eqT d d = true
  | n, .loc _, f => by simp [M.flat] at f
  | n, .non, _ => rfl
  | n, .bl b, _ => by simp [M.eqT]
  | n, .int b, _ => by simp [M.eqT]
  | n, .str b, _ => by simp [M.eqT]
  | 0, .tup ds, f => by simp [M.flat] at f
  | n + 1, .tup ds, f => by
    simp only [M.flat] at f
    simp only [M.eqT]
    exact eqTs_refl n ds f
theorem eqTs_refl : ∀ (n : Nat) (ds : List D), M.flats n ds = true → M.eqTs ds ds = true
  | n, [], _ => rfl
  | n, d :: ds, f => by
    simp only [M.flats, Bool.and_eq_true] at f
    simp only [M.eqTs, eqT_refl n d f.1, eqTs_refl n ds f.2, Bool.and_self]
end
/-- the j-th answers -/
def pairE (ds es : List D) (j : Nat) : Bool := match ds[j]?, es[j]? with
  | some d, some e => M.eqT d e
  | _, _ => true
theorem eqTs_pair : ∀ (ds es : List D), M.eqTs ds es = ((List.range (min ds.length es.length)).all (pairE ds es) && ds.length == es.length)
  | [], [] => rfl
  | [], e :: es => by simp [M.eqTs]
  | d :: ds, [] => by simp [M.eqTs]
  | d :: ds, e :: es => by
    simp only [M.eqTs]
    rw [eqTs_pair ds es, List.length_cons, List.length_cons, Nat.add_min_add_right, List.range_succ_eq_map, List.all_cons, List.all_map, Bool.and_assoc]
    congr 1
    congr 1
    rw [Bool.eq_iff_iff, beq_iff_eq, beq_iff_eq]
    omega
theorem eqTs_same {ds es : List D} (h : ds.length = es.length) : M.eqTs ds es = (List.range ds.length).all (pairE ds es) := by
  rw [eqTs_pair, h, Nat.min_self]
  simp
/-- equality of data, as CPython asks it -/
theorem eqAt_D (I : Inv X pins σ H s) : ∀ (n : Nat) (A : Around) (d e : D) (x y : V) (u v : Value), A.units + n < cLine → M.flat n d = true → M.flat n e = true → IsD X.K m H d x → IsD X.K m H e y → RelV x u → RelV y v →
    SeqAt.EqAt A s u v (M.eqT d e) ∧ SeqAt.RcAt A s u v (M.eqT d e) := by
  intro n
  induction n with
  | zero =>
    intro A d e x y u v hu f fe hx hy rx ry
    have hu0 : A.units < cLine := by omega
    cases d with
    | loc _ => simp [M.flat] at f
    | tup _ => simp [M.flat] at f
    | non =>
      cases hx.non; cases rx
      cases e with
      | loc _ => simp [M.flat] at fe
      | tup _ => simp [M.flat] at fe
      | non => cases hy.non; cases ry; exact ⟨SeqAt.EqAt.same _, SeqAt.RcAt.none_none⟩
      | bl b => cases hy.bl; cases ry; exact ⟨SeqAt.EqAt.none_bool b, SeqAt.RcAt.none_bool b⟩
      | int b => cases hy.int; obtain ⟨t, rfl⟩ := ry; exact ⟨SeqAt.EqAt.none_int b t, SeqAt.RcAt.none_int b t⟩
      | str b => cases hy.str; obtain ⟨t, rfl⟩ := ry; exact ⟨SeqAt.EqAt.none_str b t, SeqAt.RcAt.none_str b t⟩
    | bl a =>
      cases hx.bl; cases rx
      cases e with
      | loc _ => simp [M.flat] at fe
      | tup _ => simp [M.flat] at fe
      | non => cases hy.non; cases ry; exact ⟨SeqAt.EqAt.bool_none a, SeqAt.RcAt.bool_none a⟩
      | bl b => cases hy.bl; cases ry; exact ⟨SeqAt.EqAt.bool_bool a b, SeqAt.RcAt.bool_bool a b⟩
      | int b => cases hy.int; obtain ⟨t, rfl⟩ := ry; exact ⟨SeqAt.EqAt.bool_int a b t, SeqAt.RcAt.bool_int a b t⟩
      | str b => cases hy.str; obtain ⟨t, rfl⟩ := ry; exact ⟨SeqAt.EqAt.bool_str a b t, SeqAt.RcAt.bool_str a b t⟩
    | int a =>
      cases hx.int; obtain ⟨t', rfl⟩ := rx
      cases e with
      | loc _ => simp [M.flat] at fe
      | tup _ => simp [M.flat] at fe
      | non => cases hy.non; cases ry; exact ⟨SeqAt.EqAt.int_none a t', SeqAt.RcAt.int_none a t'⟩
      | bl b => cases hy.bl; cases ry; exact ⟨SeqAt.EqAt.int_bool a t' b, SeqAt.RcAt.int_bool a t' b⟩
      | int b => cases hy.int; obtain ⟨t, rfl⟩ := ry; exact ⟨SeqAt.EqAt.int_int a t' b t, SeqAt.RcAt.int_int a t' b t⟩
      | str b => cases hy.str; obtain ⟨t, rfl⟩ := ry; exact ⟨SeqAt.EqAt.int_str a t' b t, SeqAt.RcAt.int_str a t' b t⟩
    | str a =>
      cases hx.str; obtain ⟨t', rfl⟩ := rx
      cases e with
      | loc _ => simp [M.flat] at fe
      | tup _ => simp [M.flat] at fe
      | non => cases hy.non; cases ry; exact ⟨SeqAt.EqAt.str_none a t', SeqAt.RcAt.str_none a t'⟩
      | bl b => cases hy.bl; cases ry; exact ⟨SeqAt.EqAt.str_bool a t' b, SeqAt.RcAt.str_bool a t' b⟩
      | int b => cases hy.int; obtain ⟨t, rfl⟩ := ry; exact ⟨SeqAt.EqAt.str_int a t' b t, SeqAt.RcAt.str_int a t' b t⟩
      | str b => cases hy.str; obtain ⟨t, rfl⟩ := ry; exact ⟨SeqAt.EqAt.str_str a t' b t, SeqAt.RcAt.str_str a t' b t⟩
  | succ n ih =>
    intro A d e x y u v hu f fe hx hy rx ry
    have hu0 : A.units < cLine := by omega
    cases d with
    | loc _ => simp [M.flat] at f
    | tup ds =>
      obtain ⟨a, xs, its, rfl, hq, ix, r1, p1⟩ := isD_tuple I hx
      cases rx
      cases e with
      | loc _ => simp [M.flat] at fe
      | non => cases hy.non; cases ry; exact ⟨SeqAt.EqAt.tuple_none p1 hu0, SeqAt.RcAt.tuple_none p1 hu0⟩
      | bl b => cases hy.bl; cases ry; exact ⟨SeqAt.EqAt.tuple_bool b p1 hu0, SeqAt.RcAt.tuple_bool b p1 hu0⟩
      | int b => cases hy.int; obtain ⟨t, rfl⟩ := ry; exact ⟨SeqAt.EqAt.tuple_int b t p1 hu0, SeqAt.RcAt.tuple_int b t p1 hu0⟩
      | str b => cases hy.str; obtain ⟨t, rfl⟩ := ry; exact ⟨SeqAt.EqAt.tuple_str b t p1 hu0, SeqAt.RcAt.tuple_str b t p1 hu0⟩
      | tup es =>
        obtain ⟨b, ys, its2, rfl, hq2, iy, r2, p2⟩ := isD_tuple I hy
        cases ry
        have l1 := ix.length
        have l2 := iy.length
        have l3 := r1.length
        have l4 := r2.length
        simp only [M.flat] at f fe
        have he : ∀ j (h1 : j < its.toArray.size) (h2 : j < its2.toArray.size), SeqAt.EqAt A.in1 s its.toArray[j] its2.toArray[j] (pairE ds es j) := by
          intro j h1 h2
          rw [List.size_toArray] at h1 h2
          have j1 : j < ds.length := by omega
          have j2 : j < es.length := by omega
          have g1 : ds[j]? = some ds[j] := by simp
          have g2 : es[j]? = some es[j] := by simp
          obtain ⟨x1, k1, q1⟩ := ix.get g1
          obtain ⟨x2, k2, q2⟩ := iy.get g2
          obtain ⟨u1, w1, z1⟩ := r1.get k1
          obtain ⟨u2, w2, z2⟩ := r2.get k2
          have fl : ∀ (l : List D) (k : Nat) (hk : k < l.length), M.flats n l = true → M.flat n l[k] = true := by
            intro l
            induction l with
            | nil => intro k hk; cases hk
            | cons c l ihl =>
              intro k hk hf
              simp only [M.flats, Bool.and_eq_true] at hf
              cases k with
              | zero => exact hf.1
              | succ k => exact ihl k (by simpa using hk) hf.2
          have := (ih A.in1 ds[j] es[j] x1 x2 u1 u2 (by have hz : A.in1.units = A.units + 1 := rfl; omega) (fl ds j j1 f) (fl es j j2 fe) q1 q2 z1 z2).1
          have e1 : its.toArray[j] = u1 := by
            have : its[j]? = some its[j] := by simp
            rw [w1] at this
            simpa using (Option.some.inj this).symm
          have e2 : its2.toArray[j] = u2 := by
            have : its2[j]? = some its2[j] := by simp
            rw [w2] at this
            simpa using (Option.some.inj this).symm
          rw [e1, e2]
          have e3 : pairE ds es j = M.eqT ds[j] es[j] := by
            unfold pairE
            rw [g1, g2]
          rw [e3]
          exact this
        have rc : SeqAt.RcAt A s (.ref a) (.ref b) (M.eqT (.tup ds) (.tup es)) := by
          have := SeqAt.RcAt.tuples p1 p2 hu0 he
          simp only [M.eqT]
          rw [eqTs_pair, l1, l2, l3, l4]
          simpa using this
        refine ⟨?_, rc⟩
        by_cases hab : a = b
        · subst hab
          have := I.tuple_inj hq hq2
          subst this
          have e0 := isDs_inj I n ds es xs f fe ix iy
          subst e0
          have e1 : M.eqT (.tup ds) (.tup ds) = true := by
            simp only [M.eqT]
            exact eqTs_refl n ds f
          rw [e1]
          exact SeqAt.EqAt.same _
        · exact SeqAt.EqAt.of_refs hab rc
    | non =>
      cases hx.non; cases rx
      cases e with
      | loc _ => simp [M.flat] at fe
      | tup es =>
        obtain ⟨b, ys, its2, rfl, hq2, iy, r2, p2⟩ := isD_tuple I hy
        cases ry
        exact ⟨SeqAt.EqAt.none_tuple p2 hu0, SeqAt.RcAt.none_tuple p2 hu0⟩
      | non => cases hy.non; cases ry; exact ⟨SeqAt.EqAt.same _, SeqAt.RcAt.none_none⟩
      | bl b => cases hy.bl; cases ry; exact ⟨SeqAt.EqAt.none_bool b, SeqAt.RcAt.none_bool b⟩
      | int b => cases hy.int; obtain ⟨t, rfl⟩ := ry; exact ⟨SeqAt.EqAt.none_int b t, SeqAt.RcAt.none_int b t⟩
      | str b => cases hy.str; obtain ⟨t, rfl⟩ := ry; exact ⟨SeqAt.EqAt.none_str b t, SeqAt.RcAt.none_str b t⟩
    | bl a =>
      cases hx.bl; cases rx
      cases e with
      | loc _ => simp [M.flat] at fe
      | tup es =>
        obtain ⟨b, ys, its2, rfl, hq2, iy, r2, p2⟩ := isD_tuple I hy
        cases ry
        exact ⟨SeqAt.EqAt.bool_tuple a p2 hu0, SeqAt.RcAt.bool_tuple a p2 hu0⟩
      | non => cases hy.non; cases ry; exact ⟨SeqAt.EqAt.bool_none a, SeqAt.RcAt.bool_none a⟩
      | bl b => cases hy.bl; cases ry; exact ⟨SeqAt.EqAt.bool_bool a b, SeqAt.RcAt.bool_bool a b⟩
      | int b => cases hy.int; obtain ⟨t, rfl⟩ := ry; exact ⟨SeqAt.EqAt.bool_int a b t, SeqAt.RcAt.bool_int a b t⟩
      | str b => cases hy.str; obtain ⟨t, rfl⟩ := ry; exact ⟨SeqAt.EqAt.bool_str a b t, SeqAt.RcAt.bool_str a b t⟩
    | int a =>
      cases hx.int; obtain ⟨t', rfl⟩ := rx
      cases e with
      | loc _ => simp [M.flat] at fe
      | tup es =>
        obtain ⟨b, ys, its2, rfl, hq2, iy, r2, p2⟩ := isD_tuple I hy
        cases ry
        exact ⟨SeqAt.EqAt.int_tuple a t' p2 hu0, SeqAt.RcAt.int_tuple a t' p2 hu0⟩
      | non => cases hy.non; cases ry; exact ⟨SeqAt.EqAt.int_none a t', SeqAt.RcAt.int_none a t'⟩
      | bl b => cases hy.bl; cases ry; exact ⟨SeqAt.EqAt.int_bool a t' b, SeqAt.RcAt.int_bool a t' b⟩
      | int b => cases hy.int; obtain ⟨t, rfl⟩ := ry; exact ⟨SeqAt.EqAt.int_int a t' b t, SeqAt.RcAt.int_int a t' b t⟩
      | str b => cases hy.str; obtain ⟨t, rfl⟩ := ry; exact ⟨SeqAt.EqAt.int_str a t' b t, SeqAt.RcAt.int_str a t' b t⟩
    | str a =>
      cases hx.str; obtain ⟨t', rfl⟩ := rx
      cases e with
      | loc _ => simp [M.flat] at fe
      | tup es =>
        obtain ⟨b, ys, its2, rfl, hq2, iy, r2, p2⟩ := isD_tuple I hy
        cases ry
        exact ⟨SeqAt.EqAt.str_tuple a t' p2 hu0, SeqAt.RcAt.str_tuple a t' p2 hu0⟩
      | non => cases hy.non; cases ry; exact ⟨SeqAt.EqAt.str_none a t', SeqAt.RcAt.str_none a t'⟩
      | bl b => cases hy.bl; cases ry; exact ⟨SeqAt.EqAt.str_bool a t' b, SeqAt.RcAt.str_bool a t' b⟩
      | int b => cases hy.int; obtain ⟨t, rfl⟩ := ry; exact ⟨SeqAt.EqAt.str_int a t' b t, SeqAt.RcAt.str_int a t' b t⟩
      | str b => cases hy.str; obtain ⟨t, rfl⟩ := ry; exact ⟨SeqAt.EqAt.str_str a t' b t, SeqAt.RcAt.str_str a t' b t⟩
theorem flats_get : ∀ {n : Nat} {l : List D} {k : Nat} {d : D}, M.flats n l = true → l[k]? = some d → M.flat n d = true
  | _, [], _, _, _, e => by simp at e
  | n, c :: l, 0, d, f, e => by
    simp only [M.flats, Bool.and_eq_true] at f
    have e' : c = d := by simpa using e
    rw [← e']; exact f.1
  | n, c :: l, k + 1, d, f, e => by
    simp only [M.flats, Bool.and_eq_true] at f
    exact flats_get (k := k) f.2 (by simpa using e)
end
end
end MS
end
section
set_option linter.all false
set_option Elab.async false
set_option maxRecDepth 100000
set_option maxHeartbeats 4000000
namespace MS
open PySem PySem.Spec PyProof.Rows L2

/-! ### a text is walked -/
def Its (z : Str) : It := ⟨fun i _ => i < z.cps.toList.length, fun i H x H' => H' = H ∧ ∃ c, z.cps.toList[i]? = some c ∧ x = .str ⟨#[c]⟩, fun i _ => z.cps.toList.length ≤ i⟩
theorem turn_text {P : Program} {w : World} {K : PySem.W.Frag} {tg : Expr} (z : Str) (t : Tok) (it : Addr) : Turn P w K tg (Its z) [it] it (fun i h => h.IsStrIter it "str_ascii_iterator" z t i) where
  mem := by simp
  obj := fun i h st b hb => by
    have e : b = it := by simpa using hb
    subst e
    obtain ⟨o, e, c, d⟩ := st
    exact ⟨o, e, fun v q => by rw [d] at q; cases q⟩
  keep := fun i h h' st k => by
    obtain ⟨o, e, r⟩ := st
    exact ⟨o, k it (by simp) o e, r⟩
  item := by
    intro X hP hw hK hc i pins s σ H E I hf st hg
    subst hP hw hK
    obtain ⟨f0, f1, f2, f3, f4, f5⟩ := hf it (by simp)
    have hi : i < z.cps.toList.length := hg
    have hx : z.cps[i]? = some (z.cps.toList[i]) := by
      rw [← Array.getElem?_toList]
      exact List.getElem?_eq_getElem hi
    refine wpAny_pyNext_ascii_item st hx fun h' st' sb => ?_
    have I1 : Inv X pins σ H { s with heap := h', toks := s.toks + 1 } := I.turned (fun b o hb e => (sb.2 b hb).trans e) f0 f1 f3 f4 f5
    obtain ⟨o, e, c, d⟩ := id st'
    exact ⟨_, rfl, go_of (s := { s with heap := h', toks := s.toks + 1 }) e c d (by decide) ⟨.str ⟨#[z.cps.toList[i]]⟩, H, I1, ⟨_, rfl⟩, ⟨rfl, _, List.getElem?_eq_getElem hi, rfl⟩, st', fun b hb => (hf b hb).1⟩⟩
  done := by
    intro X hP hw hK hc i pins s σ H E I hf st hg
    subst hP hw hK
    obtain ⟨f0, f1, f2, f3, f4, f5⟩ := hf it (by simp)
    have hi : z.cps.toList.length ≤ i := hg
    have hx : z.cps[i]? = none := by
      rw [← Array.getElem?_toList]
      exact List.getElem?_eq_none hi
    exact wpAny_pyNext_ascii_end (I.ok.hd hc) st hx fun h' eb => ⟨rfl, I.turned (t' := s.toks) (fun b o hb e => eb b o hb e) f0 f1 f3 f4 f5⟩
  self := fun _ _ _ _ _ st h => wpAny_pyIter_striter_ascii st h

section
variable {X : Cx}
/-! ### a part of a text -/
theorem part_int {v : Value} {o : Option Int} (h : IsPart v o) : ∃ p : Option (Int × Tok), v = partValue p ∧ p.map (·.1) = o := by
  cases h with
  | none => exact ⟨none, rfl, rfl⟩
  | int i t => exact ⟨some (i, t), rfl, rfl⟩
theorem idx_range (n : Nat) (lo hi : Option Int) : Builtin.Str.strSliceIndices lo hi 1 n = PySem.sliceRange ((M.cutIx n 0 lo : Nat) : Int) ((M.cutIx n n hi : Nat) : Int) 1 := by
  have cl : ∀ (o : Option Int) (d : Nat), d ≤ n → (match o with
      | none => (d : Int)
      | some i => max 0 (min (if i < 0 then i + (n : Int) else i) (n : Int))) = ((M.cutIx n d o : Nat) : Int) := by
    intro o d hd
    cases o with
    | none => rfl
    | some i =>
      simp only [M.cutIx]
      split <;> omega
  rw [← cl lo 0 (Nat.zero_le _), ← cl hi n (Nat.le_refl _)]
  unfold Builtin.Str.strSliceIndices
  simp only [show ((1 : Int) > 0) = True from by simp, if_true]
  congr 2
theorem cutIx_le (n d : Nat) (o : Option Int) (h : d ≤ n) : M.cutIx n d o ≤ n := by
  cases o with
  | none => exact h
  | some i =>
    simp only [M.cutIx]
    split <;> omega
theorem range_one (a b : Nat) : PySem.sliceRange (a : Int) (b : Int) 1 = (List.range (b - a)).map fun k => a + k := by
  unfold PySem.sliceRange
  simp only [show ((1 : Int) > 0) = True from by simp, if_true]
  by_cases h : (a : Int) < (b : Int)
  · rw [if_pos h]
    have e : (((b : Int) - a + 1 - 1) / 1).toNat = b - a := by
      rw [Int.ediv_one]; omega
    rw [e]
    refine List.map_congr_left fun k _ => ?_
    omega
  · rw [if_neg h]
    have e : b - a = 0 := by omega
    rw [e]
    rfl
theorem cut_text (z : Str) (lo hi : Option Int) : (Builtin.Str.strSliceIndices lo hi 1 z.length).filterMap (z.cps[·]?) = M.cut z.cps.toList lo hi := by
  have hl : z.cps.toList.length = z.length := by simp [Str.length]
  have h1 := cutIx_le z.length 0 lo (Nat.zero_le _)
  have h2 := cutIx_le z.length z.length hi (Nat.le_refl _)
  rw [idx_range, range_one]
  unfold M.cut
  rw [hl]
  generalize M.cutIx z.length 0 lo = a at *
  generalize M.cutIx z.length z.length hi = b at *
  have e : ∀ l : List Nat, l.filterMap (z.cps[·]?) = l.filterMap (z.cps.toList[·]?) := fun l => by simp
  rw [e]
  by_cases hab : a ≤ b
  · exact PySem.StrLaws.picks z.cps.toList (b - a) a (by omega)
  · have e0 : b - a = 0 := by omega
    rw [e0]
    simp
theorem cut_whole (z : Str) (lo hi : Option Int) (h : (Builtin.Str.strSliceIndices lo hi 1 z.length).length = z.length) : M.cut z.cps.toList lo hi = z.cps.toList := by
  have hl : z.cps.toList.length = z.length := by simp [Str.length]
  have h1 := cutIx_le z.length 0 lo (Nat.zero_le _)
  have h2 := cutIx_le z.length z.length hi (Nat.le_refl _)
  rw [idx_range, range_one, List.length_map, List.length_range] at h
  unfold M.cut
  rw [hl]
  generalize M.cutIx z.length 0 lo = a at *
  generalize M.cutIx z.length z.length hi = b at *
  by_cases h0 : z.length = 0
  · have e : z.cps.toList = [] := List.length_eq_zero_iff.mp (hl.trans h0)
    rw [e]; simp
  · have ea : a = 0 := by omega
    subst ea
    rw [List.drop_zero]
    exact List.take_of_length_le (by omega)
theorem sl_text : SlR X (fun x lo hi H Q => ∃ z, x = .str z ∧ z.length ≤ sizeLine ∧ Q (.str ⟨(M.cut z.cps.toList lo hi).toArray⟩) H) := by
  intro pins s σ H x v vl vu lo hi sl Q I rx hs pl pu h
  obtain ⟨z, rfl, hz, q⟩ := h
  obtain ⟨t, rfl⟩ := rx
  obtain ⟨l, rfl, el⟩ := part_int pl
  obtain ⟨u, rfl, eu⟩ := part_int pu
  have hsl : s.heap.IsSlice sl l u none := hs
  refine ⟨"str", _, PySem.F.slot_str_getitem.lookup, typeIs_str s z t, ?_⟩
  have el : l.map (·.1) = lo := el
  have eu : u.map (·.1) = hi := eu
  have hpick : slicePicked z l u none = Builtin.Str.strSliceIndices lo hi 1 z.length := by unfold slicePicked; rw [el, eu]; rfl
  have hcut := cut_text z lo hi
  have hl : z.cps.toList.length = z.length := by simp [Str.length]
  have clen : (M.cut z.cps.toList lo hi).length ≤ z.length := by
    unfold M.cut
    rw [List.length_take, List.length_drop, hl]
    omega
  refine wpAny_getItem_str_slice hsl (by decide) ?_
  unfold sliceMade
  rw [hpick, hcut]
  refine post_val_or_str ⟨?_, fun t' k => ?_⟩
  · split
    · exact hz
    · show (M.cut z.cps.toList lo hi).toArray.size ≤ sizeLine
      rw [List.size_toArray]
      exact Nat.le_trans clen hz
  · refine ⟨.str ⟨(M.cut z.cps.toList lo hi).toArray⟩, H, I.tok k, ⟨t', ?_⟩, q⟩
    split
    · rename_i hw
      rw [Bool.and_eq_true, beq_iff_eq, beq_iff_eq] at hw
      have hw2 : (Builtin.Str.strSliceIndices lo hi 1 z.length).length = z.length := hw.2
      have e : M.cut z.cps.toList lo hi = z.cps.toList := cut_whole z lo hi hw2
      rw [e]
    · rfl
/-! ### methods and calls -/
theorem find_one (z : Str) (c : Nat) : Txt.find z ⟨#[c]⟩ = M.findC z.cps.toList c := by
  have at_ : ∀ i, PySem.StrLaws.At z ⟨#[c]⟩ z.length i ↔ z.cps.toList[i]? = some c := by
    intro i
    have hl : z.cps.toList.length = z.length := by simp [Str.length]
    have e1 : (⟨#[c]⟩ : Str).length = 1 := rfl
    unfold PySem.StrLaws.At
    rw [PySem.StrLaws.subAt_eq, e1, beq_iff_eq]
    constructor
    · rintro ⟨h1, h2⟩
      have hi : i < z.cps.toList.length := by omega
      rw [List.drop_eq_getElem_cons hi] at h2
      have h3 : [z.cps.toList[i]] = [c] := by simpa using h2
      rw [List.getElem?_eq_getElem hi]
      simpa using h3
    · intro h
      obtain ⟨hi, hx⟩ := List.getElem?_eq_some_iff.mp h
      refine ⟨by omega, ?_⟩
      rw [List.drop_eq_getElem_cons hi, hx]
      simp
  unfold M.findC
  rcases find_whole z ⟨#[c]⟩ with ⟨e, h⟩ | ⟨i, e, h1, h2⟩
  · rw [e]
    have : z.cps.toList.findIdx? (· == c) = none := by
      rw [List.findIdx?_eq_none_iff]
      intro x hx
      obtain ⟨i, hi⟩ := List.mem_iff_getElem?.mp hx
      by_cases hc : x = c
      · subst hc
        exact absurd ((at_ i).mpr hi) (h i)
      · simpa using hc
    rw [this]
  · rw [e]
    have h1 := (at_ i).mp h1
    have : z.cps.toList.findIdx? (· == c) = some i := by
      rw [List.findIdx?_eq_some_iff_getElem]
      obtain ⟨hi, hx⟩ := List.getElem?_eq_some_iff.mp h1
      refine ⟨hi, by simpa using hx, fun j hj => ?_⟩
      have := h2 j hj
      rw [at_] at this
      intro hc
      exact this (by rw [List.getElem?_eq_getElem (by omega)]; simpa using hc)
    rw [this]
theorem oneOf_eq {z : Str} {c : Nat} (h : M.oneOf z = some c) : z = ⟨#[c]⟩ := by
  obtain ⟨cs⟩ := z
  unfold M.oneOf at h
  split at h
  · rename_i d hd
    cases h
    have : cs = #[c] := by
      apply Array.toList_inj.mp
      simpa using hd
    rw [this]
  · cases h
end
end MS
end
section
set_option linter.all false
set_option Elab.async false
set_option maxRecDepth 100000
set_option maxHeartbeats 4000000
namespace MS
open PySem PySem.Spec PyProof.Rows L2
open M (D Cell Store Sl)
section
variable {X : Cx}
section
variable {pins : List (Addr × Obj)} {σ : L2.St} {H : Hp} {s : Shared} {m : List Addr}
/-- the items' answers -/
theorem ans_of (I : Inv X pins σ H s) (A : Around) (hu : A.units + 9 < cLine) {d0 : D} {x0 : V} {u0 : Value} (f0 : M.flat 9 d0 = true) (h0 : IsD X.K m H d0 x0) (r0 : RelV x0 u0) :
    ∃ e : Value → Bool, ∀ (ds : List D) (xs : List V) (its : List Value), M.flats 9 ds = true → IsDs X.K m H ds xs → Vals xs its → (∀ w ∈ its, SeqAt.EqAt A s w u0 (e w)) ∧ its.any e = ds.any fun y => M.eqT y d0 := by
  classical
  refine ⟨fun w => decide (∃ d x, M.flat 9 d = true ∧ IsD X.K m H d x ∧ RelV x w ∧ M.eqT d d0 = true), fun ds => ?_⟩
  have key : ∀ d x w, M.flat 9 d = true → IsD X.K m H d x → RelV x w → decide (∃ d x, M.flat 9 d = true ∧ IsD X.K m H d x ∧ RelV x w ∧ M.eqT d d0 = true) = M.eqT d d0 := by
    intro d x w f i r
    cases q : M.eqT d d0 with
    | true => exact decide_eq_true ⟨d, x, f, i, r, q⟩
    | false =>
      refine decide_eq_false ?_
      rintro ⟨d', x', f', i', r', q'⟩
      have e1 := r.inj r'
      subst e1
      have e2 := isD_inj I 9 d d' x f f' i i'
      subst e2
      rw [q] at q'
      cases q'
  induction ds with
  | nil =>
    intro xs its _ ix r
    rw [ix.nil] at r
    cases r
    exact ⟨fun w hw => (by cases hw), rfl⟩
  | cons d ds ih =>
    intro xs its f ix r
    obtain ⟨x, xr, rfl, q, t⟩ := ix.cons
    simp only [M.flats, Bool.and_eq_true] at f
    cases r with
    | @cons _ u _ us r1 r2 =>
      obtain ⟨a1, a2⟩ := ih xr us f.2 t r2
      refine ⟨fun w hw => ?_, ?_⟩
      · rcases List.mem_cons.mp hw with z | z
        · subst z
          show SeqAt.EqAt A s w u0 (decide _)
          rw [key d x w f.1 q r1]
          exact (eqAt_D I 9 A d d0 x x0 w u0 hu f.1 f0 q h0 r1 r0).1
        · exact a1 w z
      · rw [List.any_cons, List.any_cons, a2]
        congr 1
        exact key d x u f.1 q r1
end
/-- the items of two rows, one by one -/
theorem items_eq {pins : List (Addr × Obj)} {σ : L2.St} {H : Hp} {s : Shared} {m : List Addr} (I : Inv X pins σ H s) (A : Around) (n : Nat) (hu : A.units + n < cLine) {ds es : List D} {xs ys : List V} {its its2 : List Value} (f : M.flats n ds = true) (fe : M.flats n es = true) (ix : IsDs X.K m H ds xs) (iy : IsDs X.K m H es ys) (r1 : Vals xs its) (r2 : Vals ys its2)
    (j : Nat) (h1 : j < its.toArray.size) (h2 : j < its2.toArray.size) : SeqAt.EqAt A s its.toArray[j] its2.toArray[j] (pairE ds es j) := by
  have l1 := ix.length
  have l2 := iy.length
  have l3 := r1.length
  have l4 := r2.length
  rw [List.size_toArray] at h1 h2
  have j1 : j < ds.length := by omega
  have j2 : j < es.length := by omega
  have g1 : ds[j]? = some ds[j] := by simp
  have g2 : es[j]? = some es[j] := by simp
  obtain ⟨x1, k1, q1⟩ := ix.get g1
  obtain ⟨x2, k2, q2⟩ := iy.get g2
  obtain ⟨u1, w1, z1⟩ := r1.get k1
  obtain ⟨u2, w2, z2⟩ := r2.get k2
  have this := (eqAt_D I n A ds[j] es[j] x1 x2 u1 u2 hu (flats_get f g1) (flats_get fe g2) q1 q2 z1 z2).1
  have e1 : its.toArray[j] = u1 := by
    have : its[j]? = some its[j] := by simp
    rw [w1] at this
    simpa using (Option.some.inj this).symm
  have e2 : its2.toArray[j] = u2 := by
    have : its2[j]? = some its2[j] := by simp
    rw [w2] at this
    simpa using (Option.some.inj this).symm
  rw [e1, e2]
  have e3 : pairE ds es j = M.eqT ds[j] es[j] := by
    unfold pairE
    rw [g1, g2]
  rw [e3]
  exact this
theorem op_inD (hu : X.A.units + 64 < cLine) : OpR X (compareOp .In) (rD X.K fun st a b => (M.inD st a b).map fun k => (.bl k, st)) := by
  intro pins s σ H x y v u Q I rx ry h
  obtain ⟨m, st, a, b, d, st', R0, i1, i2, e, q⟩ := h
  obtain ⟨k, e1, e2⟩ := mapD e
  cases e2
  have hu1 : X.A.in1.units + 9 < cLine := by have hz : X.A.in1.units = X.A.units + 1 := rfl; omega
  cases b with
  | tup ds =>
    simp only [M.inD] at e1
    split at e1
    · rename_i hf
      cases e1
      rw [Bool.and_eq_true] at hf
      obtain ⟨p, xs, its, rfl, hq, ix, r, pl⟩ := isD_tuple I i2
      cases ry
      obtain ⟨ef, ha⟩ := ans_of I X.A.in1 hu1 hf.1 i1 rx
      obtain ⟨h1, h2⟩ := ha ds xs its hf.2 ix r
      refine SeqAt.in_tupleAt ef pl (fun w hw => h1 w (by simpa using hw)) ⟨.bl _, H, I, rfl, ?_⟩
      rw [show its.toArray.any ef = its.any ef by simp, h2]
      exact q.here R0 (mkBl _)
    · cases e1
  | loc l =>
    simp only [M.inD] at e1
    obtain ⟨ds, e2, e1⟩ := bindO e1
    split at e1
    · rename_i hf
      cases e1
      rw [Bool.and_eq_true] at hf
      obtain ⟨p, xs, _, rfl, hq, ix⟩ := R0.list e2 i2
      cases ry
      obtain ⟨its, r, pl, _⟩ := I.list hq
      obtain ⟨ef, ha⟩ := ans_of I X.A.in1 hu1 hf.1 i1 rx
      obtain ⟨h1, h2⟩ := ha ds xs its hf.2 ix r
      refine SeqAt.in_listAt ef pl.isList (fun w hw => h1 w (by simpa using hw)) ⟨.bl _, H, I, rfl, ?_⟩
      rw [show its.toArray.any ef = its.any ef by simp, h2]
      exact q.here R0 (mkBl _)
    · cases e1
  | str z =>
    simp only [M.inD] at e1
    cases a with
    | str y0 =>
      obtain ⟨c, e3, e4⟩ := mapD e1
      have hy := oneOf_eq e3
      subst hy
      subst e4
      refine op_in_str pins s σ H x y v u Q I rx ry ⟨_, _, i1.str, i2.str, ?_⟩
      rw [PySem.StrLaws.found_one]
      exact q.here R0 (mkBl _)
    | _ => cases e1
  | _ => simp [M.inD] at e1
theorem op_notInD (hu : X.A.units + 64 < cLine) : OpR X (compareOp .NotIn) (rD X.K fun st a b => ((M.inD st a b).map (!·)).map fun k => (.bl k, st)) := by
  intro pins s σ H x y v u Q I rx ry h
  obtain ⟨m, st, a, b, d, st', R0, i1, i2, e, q⟩ := h
  obtain ⟨k0, e0, e2⟩ := mapD e
  cases e2
  obtain ⟨k, e1, e3⟩ := mapD e0
  subst e3
  have hu1 : X.A.in1.units + 9 < cLine := by have hz : X.A.in1.units = X.A.units + 1 := rfl; omega
  cases b with
  | tup ds =>
    simp only [M.inD] at e1
    split at e1
    · rename_i hf
      cases e1
      rw [Bool.and_eq_true] at hf
      obtain ⟨p, xs, its, rfl, hq, ix, r, pl⟩ := isD_tuple I i2
      cases ry
      obtain ⟨ef, ha⟩ := ans_of I X.A.in1 hu1 hf.1 i1 rx
      obtain ⟨h1, h2⟩ := ha ds xs its hf.2 ix r
      refine SeqAt.notIn_tupleAt ef pl (fun w hw => h1 w (by simpa using hw)) ⟨.bl _, H, I, rfl, ?_⟩
      rw [show its.toArray.any ef = its.any ef by simp, h2]
      exact q.here R0 (mkBl _)
    · cases e1
  | loc l =>
    simp only [M.inD] at e1
    obtain ⟨ds, e2, e1⟩ := bindO e1
    split at e1
    · rename_i hf
      cases e1
      rw [Bool.and_eq_true] at hf
      obtain ⟨p, xs, _, rfl, hq, ix⟩ := R0.list e2 i2
      cases ry
      obtain ⟨its, r, pl, _⟩ := I.list hq
      obtain ⟨ef, ha⟩ := ans_of I X.A.in1 hu1 hf.1 i1 rx
      obtain ⟨h1, h2⟩ := ha ds xs its hf.2 ix r
      refine SeqAt.notIn_listAt ef pl.isList (fun w hw => h1 w (by simpa using hw)) ⟨.bl _, H, I, rfl, ?_⟩
      rw [show its.toArray.any ef = its.any ef by simp, h2]
      exact q.here R0 (mkBl _)
    · cases e1
  | str z =>
    simp only [M.inD] at e1
    cases a with
    | str y0 =>
      obtain ⟨c, e3, e4⟩ := mapD e1
      have hy := oneOf_eq e3
      subst hy
      subst e4
      refine op_notin_str pins s σ H x y v u Q I rx ry ⟨_, _, i1.str, i2.str, ?_⟩
      rw [PySem.StrLaws.found_one]
      exact q.here R0 (mkBl _)
    | _ => cases e1
  | _ => simp [M.inD] at e1
theorem op_eqD (hu : X.A.units + 64 < cLine) : OpR X (compareOp .Eq) (rD X.K fun st a b => (M.eqD st a b).map fun k => (.bl k, st)) := by
  intro pins s σ H x y v u Q I rx ry h
  obtain ⟨m, st, a, b, d, st', R0, i1, i2, e, q⟩ := h
  obtain ⟨k, e1, e2⟩ := mapD e
  cases e2
  have e1 : M.eqD st a b = some k := e1
  unfold M.eqD at e1
  split at e1
  · rename_i la lb
    obtain ⟨ds, g1, e1⟩ := bindO e1
    obtain ⟨es, g2, e1⟩ := bindO e1
    split at e1
    · rename_i hf
      cases e1
      rw [Bool.and_eq_true] at hf
      obtain ⟨p, xs, _, rfl, hq, ix⟩ := R0.list g1 i1
      obtain ⟨p', ys, _, rfl, hq', iy⟩ := R0.list g2 i2
      cases rx
      cases ry
      obtain ⟨its, r1, pl, _⟩ := I.list hq
      obtain ⟨its2, r2, pl2, _⟩ := I.list hq'
      have l1 := ix.length
      have l2 := iy.length
      have l3 := r1.length
      have l4 := r2.length
      by_cases hsz : its.toArray.size = its2.toArray.size
      · refine SeqAt.RcAt.lists (e := pairE ds es) pl.isList pl2.isList hsz (by omega) (fun j h1 h2 => ?_) _ _ _ _ ⟨.bl _, H, I, rfl, ?_⟩
        · rw [List.size_toArray] at h1 h2
          have j1 : j < ds.length := by omega
          have j2 : j < es.length := by omega
          have g1 : ds[j]? = some ds[j] := by simp
          have g2 : es[j]? = some es[j] := by simp
          obtain ⟨x1, k1, q1⟩ := ix.get g1
          obtain ⟨x2, k2, q2⟩ := iy.get g2
          obtain ⟨u1, w1, z1⟩ := r1.get k1
          obtain ⟨u2, w2, z2⟩ := r2.get k2
          have this := (eqAt_D I 9 X.A.in1 ds[j] es[j] x1 x2 u1 u2 (by have hz : X.A.in1.units = X.A.units + 1 := rfl; omega) (flats_get hf.1 g1) (flats_get hf.2 g2) q1 q2 z1 z2).1
          have e1 : its.toArray[j] = u1 := by
            have : its[j]? = some its[j] := by simp
            rw [w1] at this
            simpa using (Option.some.inj this).symm
          have e2 : its2.toArray[j] = u2 := by
            have : its2[j]? = some its2[j] := by simp
            rw [w2] at this
            simpa using (Option.some.inj this).symm
          rw [e1, e2]
          have e3 : pairE ds es j = M.eqT ds[j] es[j] := by
            unfold pairE
            rw [g1, g2]
          rw [e3]
          exact this
        · rw [List.size_toArray, List.size_toArray] at hsz
          have e5 : (List.range its.toArray.size).all (pairE ds es) = M.eqTs ds es := by
            rw [eqTs_same (by omega), List.size_toArray, ← l3, ← l1]
          rw [e5]
          exact q.here R0 (mkBl _)
      · rw [List.size_toArray, List.size_toArray] at hsz
        have e5 : M.eqTs ds es = false := by
          rw [eqTs_pair]
          have : (ds.length == es.length) = false := by simp; omega
          rw [this, Bool.and_false]
        rw [e5] at q
        refine SeqAt.RcAt.lists_lengths pl.isList pl2.isList (by simpa using hsz) (by omega) _ _ _ _ ⟨.bl _, H, I, rfl, q.here R0 (mkBl _)⟩
    · cases e1
  · split at e1
    · rename_i hf
      cases e1
      rw [Bool.and_eq_true] at hf
      exact (eqAt_D I 9 X.A a b x y v u (by omega) hf.1 hf.2 i1 i2 rx ry).2 _ _ _ _ ⟨.bl _, H, I, rfl, q.here R0 (mkBl _)⟩
    · cases e1
/-- inequality of data, as CPython asks it -/
theorem neAt_D {pins : List (Addr × Obj)} {σ : L2.St} {H : Hp} {s : Shared} {m : List Addr} (I : Inv X pins σ H s) (A : Around) (d e : D) (x y : V) (u v : Value) (hu : A.units + 10 < cLine) (f : M.flat 9 d = true) (fe : M.flat 9 e = true) (hx : IsD X.K m H d x) (hy : IsD X.K m H e y) (rx : RelV x u) (ry : RelV y v) :
    SeqAt.RcNeAt A s u v (!M.eqT d e) := by
  have hu0 : A.units < cLine := by omega
  cases d with
  | loc _ => simp [M.flat] at f
  | non =>
    cases hx.non; cases rx
    cases e with
    | loc _ => simp [M.flat] at fe
    | tup es => obtain ⟨b, ys, its2, rfl, hq2, iy, r2, p2⟩ := isD_tuple I hy; cases ry; exact SeqAt.RcNeAt.none_tuple p2 hu0
    | non => cases hy.non; cases ry; exact SeqAt.RcNeAt.none_none
    | bl b => cases hy.bl; cases ry; exact SeqAt.RcNeAt.none_bool b
    | int b => cases hy.int; obtain ⟨t, rfl⟩ := ry; exact SeqAt.RcNeAt.none_int b t
    | str b => cases hy.str; obtain ⟨t, rfl⟩ := ry; exact SeqAt.RcNeAt.none_str b t
  | bl a =>
    cases hx.bl; cases rx
    cases e with
    | loc _ => simp [M.flat] at fe
    | tup es => obtain ⟨b, ys, its2, rfl, hq2, iy, r2, p2⟩ := isD_tuple I hy; cases ry; exact SeqAt.RcNeAt.bool_tuple a p2 hu0
    | non => cases hy.non; cases ry; exact SeqAt.RcNeAt.bool_none a
    | bl b => cases hy.bl; cases ry; exact SeqAt.RcNeAt.bool_bool a b
    | int b => cases hy.int; obtain ⟨t, rfl⟩ := ry; exact SeqAt.RcNeAt.bool_int a b t
    | str b => cases hy.str; obtain ⟨t, rfl⟩ := ry; exact SeqAt.RcNeAt.bool_str a b t
  | int a =>
    cases hx.int; obtain ⟨t', rfl⟩ := rx
    cases e with
    | loc _ => simp [M.flat] at fe
    | tup es => obtain ⟨b, ys, its2, rfl, hq2, iy, r2, p2⟩ := isD_tuple I hy; cases ry; exact SeqAt.RcNeAt.int_tuple a t' p2 hu0
    | non => cases hy.non; cases ry; exact SeqAt.RcNeAt.int_none a t'
    | bl b => cases hy.bl; cases ry; exact SeqAt.RcNeAt.int_bool a t' b
    | int b => cases hy.int; obtain ⟨t, rfl⟩ := ry; exact SeqAt.RcNeAt.int_int a t' b t
    | str b => cases hy.str; obtain ⟨t, rfl⟩ := ry; exact SeqAt.RcNeAt.int_str a t' b t
  | str a =>
    cases hx.str; obtain ⟨t', rfl⟩ := rx
    cases e with
    | loc _ => simp [M.flat] at fe
    | tup es => obtain ⟨b, ys, its2, rfl, hq2, iy, r2, p2⟩ := isD_tuple I hy; cases ry; exact SeqAt.RcNeAt.str_tuple a t' p2 hu0
    | non => cases hy.non; cases ry; exact SeqAt.RcNeAt.str_none a t'
    | bl b => cases hy.bl; cases ry; exact SeqAt.RcNeAt.str_bool a t' b
    | int b => cases hy.int; obtain ⟨t, rfl⟩ := ry; exact SeqAt.RcNeAt.str_int a t' b t
    | str b => cases hy.str; obtain ⟨t, rfl⟩ := ry; exact SeqAt.RcNeAt.str_str a t' b t
  | tup ds =>
    obtain ⟨a, xs, its, rfl, hq, ix, r1, p1⟩ := isD_tuple I hx
    cases rx
    cases e with
    | loc _ => simp [M.flat] at fe
    | non => cases hy.non; cases ry; exact SeqAt.RcNeAt.tuple_none p1 hu0
    | bl b => cases hy.bl; cases ry; exact SeqAt.RcNeAt.tuple_bool b p1 hu0
    | int b => cases hy.int; obtain ⟨t, rfl⟩ := ry; exact SeqAt.RcNeAt.tuple_int b t p1 hu0
    | str b => cases hy.str; obtain ⟨t, rfl⟩ := ry; exact SeqAt.RcNeAt.tuple_str b t p1 hu0
    | tup es =>
      obtain ⟨b, ys, its2, rfl, hq2, iy, r2, p2⟩ := isD_tuple I hy
      cases ry
      have l1 := ix.length
      have l2 := iy.length
      have l3 := r1.length
      have l4 := r2.length
      simp only [M.flat] at f fe
      have he : ∀ j (h1 : j < its.toArray.size) (h2 : j < its2.toArray.size), SeqAt.EqAt A.in1 s its.toArray[j] its2.toArray[j] (pairE ds es j) := fun j h1 h2 => items_eq I A.in1 8 (by have hz : A.in1.units = A.units + 1 := rfl; omega) f fe ix iy r1 r2 j h1 h2
      have := SeqAt.RcNeAt.tuples p1 p2 hu0 he
      simp only [M.eqT]
      rw [eqTs_pair, l1, l2, l3, l4]
      simpa using this
theorem op_neD (hu : X.A.units + 64 < cLine) : OpR X (compareOp .NotEq) (rD X.K fun st a b => (M.neD st a b).map fun k => (.bl k, st)) := by
  intro pins s σ H x y v u Q I rx ry h
  obtain ⟨m, st, a, b, d, st', R0, i1, i2, e, q⟩ := h
  obtain ⟨k0, e0, e2⟩ := mapD e
  cases e2
  obtain ⟨k, e1, e3⟩ := mapD e0
  subst e3
  have e1 : M.eqD st a b = some k := e1
  unfold M.eqD at e1
  split at e1
  · rename_i la lb
    obtain ⟨ds, g1, e1⟩ := bindO e1
    obtain ⟨es, g2, e1⟩ := bindO e1
    split at e1
    · rename_i hf
      cases e1
      rw [Bool.and_eq_true] at hf
      obtain ⟨p, xs, _, rfl, hq, ix⟩ := R0.list g1 i1
      obtain ⟨p', ys, _, rfl, hq', iy⟩ := R0.list g2 i2
      cases rx
      cases ry
      obtain ⟨its, r1, pl, _⟩ := I.list hq
      obtain ⟨its2, r2, pl2, _⟩ := I.list hq'
      have l1 := ix.length
      have l2 := iy.length
      have l3 := r1.length
      have l4 := r2.length
      by_cases hsz : its.toArray.size = its2.toArray.size
      · refine SeqAt.RcNeAt.lists (e := pairE ds es) pl.isList pl2.isList hsz (by omega) (fun j h1 h2 => items_eq I X.A.in1 9 (by have hz : X.A.in1.units = X.A.units + 1 := rfl; omega) hf.1 hf.2 ix iy r1 r2 j h1 h2) _ _ _ _ ⟨.bl _, H, I, rfl, ?_⟩
        rw [List.size_toArray, List.size_toArray] at hsz
        have e5 : (List.range its.toArray.size).all (pairE ds es) = M.eqTs ds es := by
          rw [eqTs_same (by omega), List.size_toArray, ← l3, ← l1]
        rw [e5]
        exact q.here R0 (mkBl _)
      · rw [List.size_toArray, List.size_toArray] at hsz
        have e5 : M.eqTs ds es = false := by
          rw [eqTs_pair]
          have : (ds.length == es.length) = false := by simp; omega
          rw [this, Bool.and_false]
        rw [e5] at q
        refine SeqAt.RcNeAt.lists_lengths pl.isList pl2.isList (by simpa using hsz) (by omega) _ _ _ _ ⟨.bl _, H, I, rfl, q.here R0 (mkBl _)⟩
    · cases e1
  · split at e1
    · rename_i hf
      cases e1
      rw [Bool.and_eq_true] at hf
      exact neAt_D I X.A a b x y v u (by omega) hf.1 hf.2 i1 i2 rx ry _ _ _ _ ⟨.bl _, H, I, rfl, q.here R0 (mkBl _)⟩
    · cases e1
theorem isNon_of {K : PySem.W.Frag} {m : List Addr} {H : Hp} {d : D} {x : V} (h : IsD K m H d x) : decide (x = .non) = M.isNon d := by
  cases d with
  | non => rw [h.non]; rfl
  | bl b => rw [h.bl]; rfl
  | int b => rw [h.int]; rfl
  | str b => rw [h.str]; rfl
  | tup ds => obtain ⟨a, xs, rfl, _⟩ := h.tup; rfl
  | loc l => obtain ⟨a, _, rfl⟩ := h.loc; rfl
theorem op_cmpD (hu : X.A.units + 64 < cLine) (op : CmpOp) : OpR X (compareOp op) (rD X.K fun st a b => (M.cmpD st op a b).map fun k => (.bl k, st)) := by
  intro pins s σ H x y v u Q I rx ry h
  obtain ⟨m, st, a, b, d, st', R0, i1, i2, e, q⟩ := h
  obtain ⟨k, e1, e2⟩ := mapD e
  cases e2
  have e1 : M.cmpD st op a b = some k := e1
  unfold M.cmpD at e1
  split at e1
  · cases e1
    exact op_lt pins s σ H x y v u Q I rx ry ⟨_, _, i1.int, i2.int, q.here R0 (mkBl _)⟩
  · cases e1
    exact op_le pins s σ H x y v u Q I rx ry ⟨_, _, i1.int, i2.int, q.here R0 (mkBl _)⟩
  · cases e1
    exact op_gt pins s σ H x y v u Q I rx ry ⟨_, _, i1.int, i2.int, q.here R0 (mkBl _)⟩
  · cases e1
    exact op_ge pins s σ H x y v u Q I rx ry ⟨_, _, i1.int, i2.int, q.here R0 (mkBl _)⟩
  · exact op_eqD hu pins s σ H x y v u Q I rx ry ⟨m, st, a, b, _, _, R0, i1, i2, by dsimp only; rw [e1]; rfl, q⟩
  · exact op_neD hu pins s σ H x y v u Q I rx ry ⟨m, st, a, b, _, _, R0, i1, i2, by dsimp only; rw [e1]; rfl, q⟩
  · cases e1
    refine op_isN pins s σ H x y v u Q I rx ry ⟨i2.non, ?_⟩
    rw [isNon_of i1]
    exact q.here R0 (mkBl _)
  · cases e1
    refine op_notN pins s σ H x y v u Q I rx ry ⟨i2.non, ?_⟩
    rw [isNon_of i1]
    exact q.here R0 (mkBl _)
  · exact op_inD hu pins s σ H x y v u Q I rx ry ⟨m, st, a, b, _, _, R0, i1, i2, by dsimp only; rw [e1]; rfl, q⟩
  · exact op_notInD hu pins s σ H x y v u Q I rx ry ⟨m, st, a, b, _, _, R0, i1, i2, by dsimp only; rw [e1]; rfl, q⟩
  · cases e1

/-! ### truth -/
theorem truV_of {K : PySem.W.Frag} {m : List Addr} {st : Store} {H : Hp} {d : D} {x : V} {k : Bool} (R0 : Rel K m st H) (h : IsD K m H d x) (e : M.truth st d = some k) : TruV K x H k := by
  cases d with
  | non => rw [h.non]; simp only [M.truth] at e; exact (Option.some.inj e).symm
  | bl b => rw [h.bl]; simp only [M.truth] at e; exact (Option.some.inj e).symm
  | int b => rw [h.int]; simp only [M.truth] at e; exact (Option.some.inj e).symm
  | str b =>
    rw [h.str]
    simp only [M.truth] at e
    split at e
    · cases e
    · have l3 := lim_eq
      exact ⟨by omega, (Option.some.inj e).symm⟩
  | tup ds =>
    obtain ⟨a, xs, rfl, hq, ix⟩ := h.tup
    simp only [M.truth] at e
    refine .inr (.inl ⟨xs, hq, ?_⟩)
    have := ix.length
    cases e
    cases ds <;> cases xs <;> simp_all
  | loc l =>
    simp only [M.truth] at e
    obtain ⟨ds, e1, e2⟩ := mapD e
    obtain ⟨a, xs, _, rfl, hq, ix⟩ := R0.list e1 h
    refine .inl ⟨xs, hq, ?_⟩
    have := ix.length
    subst e2
    cases ds <;> cases xs <;> simp_all
theorem tru_D : TruR X (fun x H Q => ∃ m st d k, Rel X.K m st H ∧ IsD X.K m H d x ∧ M.truth st d = some k ∧ Q k H) := by
  intro pins s σ H x v Q I r h
  obtain ⟨m, st, d, k, R0, i, e, q⟩ := h
  exact tru_ok pins s σ H x v Q I r ⟨k, truV_of R0 i e, q⟩

/-! ### places -/
theorem atI_of {K : PySem.W.Frag} {m : List Addr} {H : Hp} {ds : List D} {xs : List V} {i : Int} {d : D} (ix : IsDs K m H ds xs) (e : M.atI ds i = some d) : ∃ x, L2.atI xs i = some x ∧ IsD K m H d x := by
  unfold M.atI at e
  obtain ⟨j, e1, e2⟩ := bindO e
  obtain ⟨x, e3, q⟩ := ix.get e2
  refine ⟨x, ?_, q⟩
  unfold L2.atI
  have e4 : L2.ixN xs.length i = some j := by rw [← ix.length]; exact e1
  rw [e4]
  exact e3
theorem ix_D : IxR X (rD X.K fun st a b => (M.idxD st a b).map fun d => (d, st)) := by
  intro value slice pins s σ H x y v u Q I rx ry h hs
  obtain ⟨m, st, a, b, d, st', R0, i1, i2, e, q⟩ := h
  obtain ⟨k, e1, e2⟩ := mapD e
  cases e2
  have e1 : M.idxD st a b = some d := e1
  unfold M.idxD at e1
  split at e1
  · obtain ⟨p, xs, rfl, hq, ix⟩ := i1.tup
    obtain ⟨w, e3, iw⟩ := atI_of ix e1
    exact ix_tup value slice pins s σ H _ _ v u Q I rx ry ⟨p, xs, _, w, rfl, i2.int, hq, e3, q.here R0 iw⟩ hs
  · obtain ⟨ds, e2, e1⟩ := bindO e1
    obtain ⟨p, xs, _, rfl, hq, ix⟩ := R0.list e2 i1
    obtain ⟨w, e3, iw⟩ := atI_of ix e1
    exact ix_list value slice pins s σ H _ _ v u Q I rx ry ⟨p, xs, _, w, rfl, i2.int, hq, e3, q.here R0 iw⟩ hs
  · split at e1
    · cases e1
    · obtain ⟨c, e3, e4⟩ := mapD e1
      subst e4
      have l3 := lim_eq
      exact ix_str value slice pins s σ H _ _ v u Q I rx ry ⟨_, _, c, i1.str, i2.int, by omega, e3, q.here R0 (mkStr _)⟩ hs
  · cases e1
def rSetD (K : PySem.W.Frag) : V → V → V → Hp → (Hp → Prop) → Prop := fun o i v H Q => ∃ m st a b c st', Rel K m st H ∧ IsD K m H a o ∧ IsD K m H b i ∧ IsD K m H c v ∧ M.setIxD st a b c = some st' ∧
  ∀ m' H', Sub m m' → Tr H H' → Rel K m' st' H' → Q H'
theorem set_D : PSet X (rSetD X.K) := by
  intro pins s σ H o i v ov iv u Q I ro ri rv h
  obtain ⟨m, st, a, b, c, st', R0, i1, i2, i3, e, q⟩ := h
  unfold M.setIxD at e
  split at e
  · obtain ⟨ds, e1, e⟩ := bindO e
    obtain ⟨j, e2, e3⟩ := mapD e
    subst e3
    obtain ⟨p, xs, hm, rfl, hp, ix, hs⟩ := R0.wlist e1 i1
    refine set_list pins s σ H _ _ _ ov iv u Q I ro ri rv ⟨p, xs, _, j, rfl, i2.int, hp, by rw [← ix.length]; exact e2, ?_⟩
    exact q m _ (Sub.refl m) (Tr.put hp) (R0.put hs hm hp (ix.set j i3))
  · cases e
theorem mt_appendD : MtM X "list.append" (fun x xs H Q => ∃ m st a ds d st', Rel X.K m st H ∧ IsD X.K m H a x ∧ IsDs X.K m H ds xs ∧ M.mAppend st a ds = some (d, st') ∧ Post X.K m H d st' Q) := by
  intro pins s σ H x xs v us Q I rx rs h
  obtain ⟨m, st, a, ds, d, st', R0, i1, i2, e, q⟩ := h
  unfold M.mAppend at e
  split at e
  · obtain ⟨ds0, e1, e⟩ := bindO e
    split at e
    · rename_i hl
      cases e
      obtain ⟨p, ys, hm, rfl, hp, ix, hs⟩ := R0.wlist e1 i1
      obtain ⟨y, rfl, iy⟩ := i2.one
      have l1 := ix.length
      have l2 := lim_eq
      refine mt_append pins s σ H _ _ v us Q I rx rs ⟨p, ys, y, rfl, rfl, hp, by omega, ?_⟩
      exact q _ m _ (Sub.refl m) (Tr.put hp) (R0.put hs hm hp (ix.append (mkCons iy mkNil))) mkNon
    · cases e
  · cases e

/-! ### slices -/
def rSlD (K : PySem.W.Frag) : V → Option Int → Option Int → Hp → VK → Prop := fun x lo hi H Q => ∃ m st a d st', Rel K m st H ∧ IsD K m H a x ∧ M.sliD st a lo hi = some (d, st') ∧ Post K m H d st' Q
theorem _root_.MS.IsDs.take {K : PySem.W.Frag} {m : List Addr} {H : Hp} : ∀ {ds : List D} {xs : List V} (n : Nat), IsDs K m H ds xs → IsDs K m H (ds.take n) (xs.take n)
  | _, _, 0, _ => by simp only [List.take_zero]; exact mkNil
  | [], _, n + 1, h => by rw [h.nil]; simp only [List.take_nil]; exact mkNil
  | d :: ds, _, n + 1, h => by
    obtain ⟨x, r, rfl, q, t⟩ := h.cons
    simp only [List.take_succ_cons]
    exact mkCons q (IsDs.take n t)
theorem _root_.MS.IsDs.drop {K : PySem.W.Frag} {m : List Addr} {H : Hp} : ∀ {ds : List D} {xs : List V} (n : Nat), IsDs K m H ds xs → IsDs K m H (ds.drop n) (xs.drop n)
  | _, _, 0, h => by simp only [List.drop_zero]; exact h
  | [], _, n + 1, h => by rw [h.nil]; simp only [List.drop_nil]; exact mkNil
  | d :: ds, _, n + 1, h => by
    obtain ⟨x, r, rfl, q, t⟩ := h.cons
    simp only [List.drop_succ_cons]
    exact IsDs.drop n t
theorem cutIx_eq (n d : Nat) (o : Option Int) : M.cutIx n d o = HT.sIx n d o := by
  cases o <;> rfl
theorem cut_of {K : PySem.W.Frag} {m : List Addr} {H : Hp} {ds : List D} {xs : List V} (h : IsDs K m H ds xs) (lo hi : Option Int) : IsDs K m H (M.cut ds lo hi) (cutV xs lo hi) := by
  unfold M.cut cutV
  rw [cutIx_eq, cutIx_eq, h.length]
  exact (h.drop _).take _
theorem sl_D : SlR X (rSlD X.K) := by
  intro pins s σ H x v vl vu lo hi sl Q I rx hs pl pu h
  obtain ⟨m, st, a, d, st', R0, i1, e, q⟩ := h
  unfold M.sliD at e
  split at e
  · cases e
    obtain ⟨p, xs, rfl, hx, ix⟩ := i1.tup
    have ic := cut_of ix lo hi
    by_cases hw : HT.sIx xs.length 0 lo = 0 ∧ HT.sIx xs.length xs.length hi = xs.length
    · cases rx
      obtain ⟨its, r, ht, hz⟩ := I.tuple hx
      refine ⟨"tuple", _, PyProof.Rows.slot_tuple_getitem.lookup, ht.typeIs, ?_⟩
      have hlen : its.toArray.size = xs.length := by rw [List.size_toArray]; exact r.length.symm
      refine getItem_tuple_whole ht hs pl pu (by rw [hlen]; exact hw) ?_
      refine ⟨.ref p, H, I, rfl, q.here R0 (mkTup hx ?_)⟩
      have e1 : cutV xs lo hi = xs := by
        unfold cutV
        rw [hw.1, hw.2]
        simp
      rw [e1] at ic
      exact ic
    · refine sl_tup pins s σ H _ v vl vu lo hi sl Q I rx hs pl pu ⟨p, xs, rfl, hx, hw, fun p' hp => ?_⟩
      have sm := same_new (o := .tup (cutV xs lo hi)) hp
      exact q _ m _ (Sub.refl m) (Tr.of_same sm) (R0.same sm) (mkTup (SqT.of upd_same) (isDs_mono (Sub.refl m) (Tr.of_same sm) _ _ ic))
  · obtain ⟨ds, e1, e2⟩ := mapD e
    cases e2
    obtain ⟨p, xs, _, rfl, hq, ix⟩ := R0.list e1 i1
    refine sl_list pins s σ H _ v vl vu lo hi sl Q I rx hs pl pu ⟨p, xs, rfl, hq, fun l hl => ?_⟩
    exact q _ (m ++ [l]) _ (Sub.app m [l]) (Tr.of_same (same_new hl)) (R0.new hl (cut_of ix lo hi)) R0.newLoc
  · split at e
    · cases e
    · rename_i hz
      cases e
      have l2 := lim_eq
      exact sl_text pins s σ H _ v vl vu lo hi sl Q I rx hs pl pu ⟨_, i1.str, by omega, q.here R0 (mkStr _)⟩
  · cases e
/-! ### x op= y -/
def rAug (K : PySem.W.Frag) (op : Operator) : R2 := fun x y H Q => ∃ m st a b d, Rel K m st H ∧ IsD K m H a x ∧ IsD K m H b y ∧ M.augD st op a b = some d ∧ ∀ v, IsD K m H d v → Q v H
theorem ip_D (op : Operator) : PIp X op (rAug X.K op) := by
  intro pins s σ H x y v u Q I rx ry h
  obtain ⟨m, st, a, b, d, R0, i1, i2, e, q⟩ := h
  unfold M.augD at e
  split at e
  · cases e
    exact iop_add pins s σ H x y v u Q I rx ry ⟨_, _, i1.int, i2.int, q _ (mkInt _)⟩
  · cases e
    exact iop_sub pins s σ H x y v u Q I rx ry ⟨_, _, i1.int, i2.int, q _ (mkInt _)⟩
  · split at e
    · rename_i hc
      cases e
      refine iop_mul pins s σ H x y v u Q I rx ry ⟨_, _, i1.int, i2.int, ?_, q _ (mkInt _)⟩
      unfold M.mulOk at hc
      simp only [Bool.or_eq_true, Bool.and_eq_true, decide_eq_true_eq] at hc
      exact hc
    · cases e
  · split at e
    · cases e
    · cases e
      have l3 := lim_eq
      exact iop_add_str pins s σ H x y v u Q I rx ry ⟨_, _, i1.str, i2.str, by omega, q _ (mkStr _)⟩
  · cases e

/-! ### calls of Python's own -/
theorem call_lenD : CallR X (.builtin "len") (rC X.K M.bLen) := by
  intro pins s σ H xs us Q I r h
  obtain ⟨m, st, ds, d, st', R0, ix, e, q⟩ := h
  unfold M.bLen at e
  split at e
  · cases e
    obtain ⟨x, rfl, i⟩ := ix.one
    obtain ⟨p, ys, rfl, hq, iy⟩ := i.tup
    refine call_len_seq pins s σ H _ us Q I r ⟨p, ys, rfl, .inr hq, ?_⟩
    rw [← iy.length]
    exact q.here R0 (mkInt _)
  · obtain ⟨ds', e1, e2⟩ := mapD e
    cases e2
    obtain ⟨x, rfl, i⟩ := ix.one
    obtain ⟨p, ys, _, rfl, hq, iy⟩ := R0.list e1 i
    refine call_len_seq pins s σ H _ us Q I r ⟨p, ys, rfl, .inl hq, ?_⟩
    rw [← iy.length]
    exact q.here R0 (mkInt _)
  · split at e
    · cases e
    · cases e
      obtain ⟨x, rfl, i⟩ := ix.one
      have l3 := lim_eq
      cases i.str
      exact call_len_str pins s σ H _ us Q I r ⟨_, rfl, by omega, q.here R0 (mkInt _)⟩
  · cases e
theorem call_minD (hc : X.calm = true) : CallR X (.builtin "min") (rC X.K M.bMin) := by
  intro pins s σ H xs us Q I r h
  obtain ⟨m, st, ds, d, st', R0, ix, e, q⟩ := h
  unfold M.bMin at e
  split at e
  · cases e
    obtain ⟨x, y, rfl, i, j⟩ := ix.two
    cases i.int; cases j.int
    exact call_min2 hc pins s σ H _ us Q I r ⟨_, _, rfl, q.here R0 (mkInt _)⟩
  · cases e
theorem call_maxD (hc : X.calm = true) : CallR X (.builtin "max") (rC X.K M.bMax) := by
  intro pins s σ H xs us Q I r h
  obtain ⟨m, st, ds, d, st', R0, ix, e, q⟩ := h
  unfold M.bMax at e
  split at e
  · cases e
    obtain ⟨x, y, rfl, i, j⟩ := ix.two
    cases i.int; cases j.int
    exact call_max2 hc pins s σ H _ us Q I r ⟨_, _, rfl, q.here R0 (mkInt _)⟩
  · cases e
theorem call_tupleD : CallR X (.type "tuple") (rC X.K M.bTuple) := by
  intro pins s σ H xs us Q I r h
  obtain ⟨m, st, ds, d, st', R0, ix, e, q⟩ := h
  unfold M.bTuple at e
  split at e
  · obtain ⟨ds', e1, e2⟩ := mapD e
    cases e2
    obtain ⟨x, rfl, i⟩ := ix.one
    obtain ⟨p, ys, _, rfl, hq, iy⟩ := R0.list e1 i
    refine call_tuple_of pins s σ H _ us Q I r ⟨p, ys, rfl, .inl ⟨hq, fun l hl => ?_⟩⟩
    have sm := same_new (o := .tup ys) hl
    exact q _ m _ (Sub.refl m) (Tr.of_same sm) (R0.same sm) (mkTup (SqT.of upd_same) (isDs_mono (Sub.refl m) (Tr.of_same sm) _ _ iy))
  · cases e
    obtain ⟨x, rfl, i⟩ := ix.one
    obtain ⟨p, ys, rfl, hq, iy⟩ := i.tup
    exact call_tuple_of pins s σ H _ us Q I r ⟨p, ys, rfl, .inr ⟨hq, q.here R0 (mkTup hq iy)⟩⟩
  · cases e
theorem call_listD : CallR X (.type "list") (rC X.K M.bList) := by
  intro pins s σ H xs us Q I r h
  obtain ⟨m, st, ds, d, st', R0, ix, e, q⟩ := h
  unfold M.bList at e
  split at e
  · obtain ⟨ds', e1, e2⟩ := mapD e
    cases e2
    obtain ⟨x, rfl, i⟩ := ix.one
    obtain ⟨p, ys, _, rfl, hq, iy⟩ := R0.list e1 i
    refine call_list_of pins s σ H _ us Q I r ⟨p, ys, rfl, .inl hq, fun l hl => ?_⟩
    exact q _ (m ++ [l]) _ (Sub.app m [l]) (Tr.of_same (same_new hl)) (R0.new hl iy) R0.newLoc
  · cases e
    obtain ⟨x, rfl, i⟩ := ix.one
    obtain ⟨p, ys, rfl, hq, iy⟩ := i.tup
    refine call_list_of pins s σ H _ us Q I r ⟨p, ys, rfl, .inr hq, fun l hl => ?_⟩
    exact q _ (m ++ [l]) _ (Sub.app m [l]) (Tr.of_same (same_new hl)) (R0.new hl iy) R0.newLoc
  · cases e
theorem bools_of {K : PySem.W.Frag} {m : List Addr} {H : Hp} : ∀ {ds : List D} {xs : List V} {its : List Value} {bs : List Bool}, M.asBools ds = some bs → IsDs K m H ds xs → Vals xs its → LSm.BoolsAre its bs
  | [], _, _, _, e, ix, r => by
    rw [ix.nil] at r
    cases r
    cases e
    exact .nil
  | d :: ds, _, _, _, e, ix, r => by
    obtain ⟨x, xr, rfl, q, t⟩ := ix.cons
    cases d with
    | bl b =>
      simp only [M.asBools] at e
      obtain ⟨bs', e1, e2⟩ := mapD e
      subst e2
      cases q.bl
      cases r with
      | cons r1 r2 =>
        cases r1
        exact .cons b (bools_of e1 t r2)
    | _ => simp [M.asBools] at e
theorem ints_of {K : PySem.W.Frag} {m : List Addr} {H : Hp} : ∀ {ds : List D} {xs : List V} {ns : List Int}, M.asInts ds = some ns → IsDs K m H ds xs → xs = ns.map V.int ∧ ds = ns.map D.int
  | [], _, _, e, ix => by
    cases e
    exact ⟨ix.nil, rfl⟩
  | d :: ds, _, _, e, ix => by
    obtain ⟨x, xr, rfl, q, t⟩ := ix.cons
    cases d with
    | int b =>
      simp only [M.asInts] at e
      obtain ⟨bs', e1, e2⟩ := mapD e
      subst e2
      cases q.int
      obtain ⟨h1, h2⟩ := ints_of e1 t
      rw [h1, h2]
      exact ⟨rfl, rfl⟩
    | _ => simp [M.asInts] at e
theorem call_allD (hc : X.calm = true) : CallR X (.builtin "all") (rC X.K M.bAll) := by
  intro pins s σ H xs us Q I r h
  obtain ⟨m, st, ds, d, st', R0, ix, e, q⟩ := h
  unfold M.bAll at e
  split at e
  · obtain ⟨ds', e1, e⟩ := bindO e
    obtain ⟨bs, e2, e3⟩ := mapD e
    cases e3
    obtain ⟨x, rfl, i⟩ := ix.one
    obtain ⟨p, ys, _, rfl, hq, iy⟩ := R0.list e1 i
    obtain ⟨u, rfl, ru⟩ := vals1 r
    cases ru
    obtain ⟨its, rv, pl, _⟩ := I.list hq
    have hb := bools_of e2 iy rv
    have hl := pl.isList
    have hlt : p < s.heap.objs.size := by obtain ⟨_, e, _⟩ := id hl; exact Heap.lt_size e
    refine call_all_walk (wpAny_pyIter_list hl ?_)
    refine ⟨s.heap.objs.size, [s.heap.objs.size, p], [s.heap.objs.size], its.toArray.size, _, _, fun i => (bs[i]?).getD true, rfl, Walks.list (A := X.A.in1) (I.ok.hd hc) _ p (Nat.ne_of_lt hlt) its.toArray,
      ⟨⟨_, Heap.get?_push_size _ rfl, rfl, rfl⟩, hl.push _⟩, fun i v s' Q' E' hP hQ => ?_, fun h' tk hk => ?_⟩
    · obtain ⟨b, e, rfl⟩ := hb.get i v (by simpa using hP)
      simp only [e, Option.getD_some] at hQ
      exact wpAny_truthy_bool hQ
    · have e : ((List.range its.toArray.size).all fun i => (bs[i]?).getD true) = bs.all id := by
        rw [List.size_toArray, hb.length]; exact LSm.range_all bs
      rw [e]
      exact ⟨.bl _, H, I.kept (LSm.kept_iter hk), rfl, q.here R0 (mkBl _)⟩
  · cases e
theorem insInt_perm (x : Int) : ∀ l : List Int, (M.insInt x l).Perm (x :: l)
  | [] => .refl _
  | y :: r => by
    unfold M.insInt
    split
    · exact .refl _
    · exact ((insInt_perm x r).cons y).trans (.swap x y r)
theorem sortInt_perm : ∀ l : List Int, (M.sortInt l).Perm l
  | [] => .refl _
  | x :: r => by
    unfold M.sortInt
    exact (insInt_perm x _).trans ((sortInt_perm r).cons x)
theorem insInt_sorted (x : Int) : ∀ l : List Int, l.Pairwise (· ≤ ·) → (M.insInt x l).Pairwise (· ≤ ·)
  | [], _ => by unfold M.insInt; simp
  | y :: r, h => by
    unfold M.insInt
    split
    · rename_i hx
      refine List.Pairwise.cons (fun z hz => ?_) h
      rcases List.mem_cons.mp hz with e | e
      · rw [e]; exact hx
      · exact Int.le_trans hx ((List.pairwise_cons.mp h).1 z e)
    · rename_i hx
      have h' := List.pairwise_cons.mp h
      refine List.Pairwise.cons (fun z hz => ?_) (insInt_sorted x r h'.2)
      rcases List.mem_cons.mp ((insInt_perm x r).mem_iff.mp hz) with e | e
      · rw [e]; omega
      · exact h'.1 z e
theorem sortInt_sorted : ∀ l : List Int, (M.sortInt l).Pairwise (· ≤ ·)
  | [] => by unfold M.sortInt; simp
  | x :: r => by
    unfold M.sortInt
    exact insInt_sorted x _ (sortInt_sorted r)
theorem isDs_ints {K : PySem.W.Frag} {m : List Addr} {H : Hp} : ∀ (ns : List Int), IsDs K m H (ns.map D.int) (ns.map V.int)
  | [] => mkNil
  | n :: r => mkCons (mkInt n) (isDs_ints r)
theorem call_sortedD : CallR X (.builtin "sorted") (rC X.K M.bSorted) := by
  intro pins s σ H xs us Q I r h
  obtain ⟨m, st, ds, d, st', R0, ix, e, q⟩ := h
  unfold M.bSorted at e
  split at e
  · obtain ⟨ds', e1, e⟩ := bindO e
    obtain ⟨ns, e2, e3⟩ := mapD e
    cases e3
    split at e2
    · cases e2
    · rename_i h64
      obtain ⟨x, rfl, i⟩ := ix.one
      obtain ⟨p, ys, _, rfl, hq, iy⟩ := R0.list e1 i
      obtain ⟨u, rfl, ru⟩ := vals1 r
      cases ru
      obtain ⟨its, rv, pl, _⟩ := I.list hq
      obtain ⟨e4, e5⟩ := ints_of e2 iy
      have l1 := iy.length
      have l2 := rv.length
      subst e4
      have hI : IntsAre its ns := intsAre_of rv
      refine sorted_ints pl.isList hI (by omega) fun out ns' a1 a2 a3 => ?_
      have e6 : ns' = M.sortInt ns := PySem.W.ksm_same (a2.trans (sortInt_perm ns).symm) a3 (sortInt_sorted ns)
      subst e6
      obtain ⟨ep, he⟩ := sortedAll_at s.heap its out
      have fr : H (s.heap.objs.size + 1) = none := I.hok.fresh (Nat.le_succ _)
      have l3 := (sortInt_perm ns).length_eq
      have l4 := lim_eq
      rw [List.length_map] at l1
      refine ⟨.ref (s.heap.objs.size + 1), upd H (s.heap.objs.size + 1) (.lst ((M.sortInt ns).map V.int)), I.laid (t' := s.toks) (fun b o e => sortedAll_old e) (Nat.le_succ _) ?_, rfl, ?_⟩
      · refine ⟨?_, out.toList, ep, vals_ints a1, ?_⟩
        · rw [List.length_map, l3, l4]
          unfold M.lim
          omega
        · rw [he]
      · exact q _ (m ++ [_]) _ (Sub.app m _) (Tr.of_same (same_new fr)) (R0.new fr (isDs_ints _)) R0.newLoc
  · cases e

/-! ### isinstance -/
theorem kit_one (K : PySem.W.Frag) (n t : M.Ty) (ht : t ≠ .non) : PySem.W.kitOne K (.type n.name) (.type t.name) = some (M.tyIs t n) := by
  cases n <;> cases t <;> first
    | exact absurd rfl ht
    | rfl
    | decide +kernel
theorem kit_any (K : PySem.W.Frag) (n : M.Ty) : ∀ ts : List M.Ty, (∀ t ∈ ts, t ≠ .non) → PySem.W.kitAny K (.type n.name) (ts.map fun t => Value.type t.name) = some (ts.any fun t => M.tyIs t n)
  | [], _ => rfl
  | t :: ts, h => by
    rw [List.map_cons, List.any_cons]
    unfold PySem.W.kitAny
    rw [kit_one K n t (h t List.mem_cons_self)]
    cases M.tyIs t n with
    | true => rfl
    | false => exact kit_any K n ts fun t' ht => h t' (List.mem_cons_of_mem _ ht)
theorem kit_of {pins : List (Addr × Obj)} {σ : L2.St} {H : Hp} {s : Shared} {m : List Addr} {st : Store} {d : D} {x : V} {u : Value} {n : M.Ty} (I : Inv X pins σ H s) (R0 : Rel X.K m st H) (h : IsD X.K m H d x) (r : RelV x u) (e : M.tyName st d = some n) :
    ∃ Hf : Heap → Prop, PySem.W.KitX X.K u (.type n.name) Hf ∧ Hf s.heap ∧ u ≠ .builtin "__main__.__loader__#opaque" := by
  cases d with
  | non => cases h.non; cases r; cases e; exact ⟨_, PySem.W.kitx_none, True.intro, fun z => nomatch z⟩
  | bl b => cases h.bl; cases r; cases e; exact ⟨_, PySem.W.kitx_bool, True.intro, fun z => nomatch z⟩
  | int b => cases h.int; obtain ⟨t, rfl⟩ := r; cases e; exact ⟨_, PySem.W.kitx_int, True.intro, fun z => nomatch z⟩
  | str b => cases h.str; obtain ⟨t, rfl⟩ := r; cases e; exact ⟨_, PySem.W.kitx_str, True.intro, fun z => nomatch z⟩
  | tup ds =>
    obtain ⟨a, xs, its, rfl, hq, ix, r1, p1⟩ := isD_tuple I h
    cases r
    cases e
    obtain ⟨o, h1, h2, _⟩ := p1
    exact ⟨_, PySem.W.kitx_tuple, ⟨o, h1, h2⟩, fun z => nomatch z⟩
  | loc l =>
    simp only [M.tyName] at e
    obtain ⟨ds, e1, e2⟩ := mapD e
    subst e2
    obtain ⟨a, xs, _, rfl, hq, ix⟩ := R0.list e1 h
    cases r
    obtain ⟨its, rv, pl, _⟩ := I.list hq
    obtain ⟨o, h1, h2, _⟩ := pl.isList
    exact ⟨_, PySem.W.kitx_list, ⟨o, h1, h2⟩, fun z => nomatch z⟩
/-- isinstance(x, T) -/
def rIsi1 (K : PySem.W.Frag) (t : M.Ty) : List V → Hp → VK → Prop := fun xs H Q => ∃ m st d n x, xs = [x, .ty t.name] ∧ Rel K m st H ∧ IsD K m H d x ∧ M.tyName st d = some n ∧ Q (.bl (M.tyIs t n)) H
theorem call_isi1 (t : M.Ty) (ht : t ≠ .non) : CallR X (.builtin "isinstance") (rIsi1 X.K t) := by
  intro pins s σ H xs us Q I r h
  obtain ⟨m, st, d, n, x, rfl, R0, i, e, q⟩ := h
  obtain ⟨u, w, rfl, ru, rw'⟩ := vals2 r
  cases rw'
  obtain ⟨Hf, Z, p, hx⟩ := kit_of I R0 i ru e
  exact PySem.W.kia_one Z I.kIn p (kit_one X.K n t ht) hx fun tk => ⟨.bl _, H, I.tok tk, rfl, q⟩
/-- isinstance(x, (T, ..)) -/
def rIsiN (K : PySem.W.Frag) (ts : List M.Ty) : List V → Hp → VK → Prop := fun xs H Q => ∃ m st d n x p, xs = [x, .ref p] ∧ H p = some (.tup (ts.map fun t => V.ty t.name)) ∧ Rel K m st H ∧ IsD K m H d x ∧ M.tyName st d = some n ∧ Q (.bl (ts.any fun t => M.tyIs t n)) H
theorem vals_tys : ∀ {ts : List M.Ty} {us : List Value}, Vals (ts.map fun t => V.ty t.name) us → us = ts.map fun t => Value.type t.name
  | [], _, .nil => rfl
  | t :: ts, _, .cons r q => by
    cases r
    rw [vals_tys q]
    rfl
theorem call_isiN (ts : List M.Ty) (ht : ∀ t ∈ ts, t ≠ .non) : CallR X (.builtin "isinstance") (rIsiN X.K ts) := by
  intro pins s σ H xs us Q I r h
  obtain ⟨m, st, d, n, x, p, rfl, hp, R0, i, e, q⟩ := h
  obtain ⟨u, w, rfl, ru, rw'⟩ := vals2 r
  cases rw'
  obtain ⟨Hf, Z, pz, hx⟩ := kit_of I R0 i ru e
  obtain ⟨_, its, rv, ⟨cls, dd, data, sl⟩, h1, h2, nn, h3⟩ := I.hok p _ hp
  have e1 := vals_tys rv
  subst e1
  simp only at h2 h3
  subst h2 h3
  exact PySem.W.kia_tup Z I.kIn pz h1 (kit_any X.K n ts ht) hx fun tk => ⟨.bl _, H, I.tok tk, rfl, q⟩
end
end MS
end
section
set_option linter.all false
set_option Elab.async false
set_option maxRecDepth 100000
set_option maxHeartbeats 4000000
namespace MS
open PySem PySem.Spec PyProof.Rows L2

/-! ### the cells that a block takes along -/
def closL (cells : List (Str × Addr)) : List (Str × NameKind) → List (Str × Addr) → List (Str × Addr)
  | [], acc => acc
  | (n, k) :: r, acc => closL cells r (if k == .free then (match cells.lookup n with | some a => (n, a) :: acc | none => acc) else acc)
theorem clos_loop {env : Env} : ∀ (names : List (Str × NameKind)) (acc : List (Str × Addr)), (∀ x ∈ names, x.2 = .free → ∃ c, env.cells.lookup x.1 = some c) →
    (forIn names acc fun x r => match x, r with
      | (name, kind), cs => if (kind == .free) = true then do let a ← cellOf env name; pure (ForInStep.yield ((name, a) :: cs)) else pure (ForInStep.yield cs) : Sem (List (Str × Addr))) = pure (closL env.cells names acc) := by
  intro names
  induction names with
  | nil => intro acc _; rfl
  | cons x r ih =>
    intro acc h
    obtain ⟨n, k⟩ := x
    rw [List.forIn_cons]
    have hr := fun acc => ih acc fun y hy => h y (List.mem_cons_of_mem _ hy)
    by_cases hk : k = .free
    · subst hk
      obtain ⟨c, hc⟩ := h (n, .free) List.mem_cons_self rfl
      simp only [beq_self_eq_true, if_true, cellOf, hc]
      show (do let r_1 ← (do let a ← (pure c : Sem Addr); pure (ForInStep.yield ((n, a) :: acc))); match r_1 with | .done b => pure b | .yield b => _) = _
      simp only [pure_bind]
      refine (hr ((n, c) :: acc)).trans ?_
      have hc' : env.cells.lookup n = some c := hc
      simp [closL, hc']
    · have hb : (k == NameKind.free) = false := by simpa using hk
      simp only [hb, Bool.false_eq_true, if_false, pure_bind]
      refine (hr acc).trans ?_
      simp [closL, hb]
theorem closureFor_of {scope : Scope} {env : Env} (h : ∀ x ∈ scope.names, x.2 = .free → ∃ c, env.cells.lookup x.1 = some c) : closureFor scope env = pure (closL env.cells scope.names []) := by
  unfold closureFor
  have := clos_loop (env := env) scope.names [] h
  simp only [this]
  rfl
theorem closL_in {cells : List (Str × Addr)} {x : Str} {c : Addr} (hc : cells.lookup x = some c) : ∀ (names : List (Str × NameKind)) (acc : List (Str × Addr)), ((x, NameKind.free) ∈ names ∨ acc.lookup x = some c) → (closL cells names acc).lookup x = some c
  | [], acc, h => by
    rcases h with h | h
    · cases h
    · exact h
  | (n, k) :: r, acc, h => by
    unfold closL
    refine closL_in hc r _ ?_
    by_cases hk : k = .free
    · subst hk
      simp only [beq_self_eq_true, if_true]
      by_cases hn : n = x
      · subst hn
        rw [hc]
        exact .inr (by simp)
      · rcases h with h | h
        · rcases List.mem_cons.mp h with e | e
          · cases e; exact absurd rfl hn
          · exact .inl e
        · refine .inr ?_
          split
          · have : (x == n) = false := by simpa using Ne.symm hn
            rw [List.lookup_cons, this]; exact h
          · exact h
    · have hb : (k == NameKind.free) = false := by simpa using hk
      rw [hb, if_neg Bool.false_ne_true]
      rcases h with h | h
      · rcases List.mem_cons.mp h with e | e
        · cases e; exact absurd rfl hk
        · exact .inl e
      · exact .inr h
theorem closL_out {cells : List (Str × Addr)} : ∀ (names : List (Str × NameKind)) (acc : List (Str × Addr)), (∀ x c, acc.lookup x = some c → cells.lookup x = some c) → ∀ x c, (closL cells names acc).lookup x = some c → cells.lookup x = some c
  | [], acc, h, x, c, e => h x c e
  | (n, k) :: r, acc, h, x, c, e => by
    unfold closL at e
    refine closL_out r _ ?_ x c e
    intro y d q
    by_cases hk : (k == NameKind.free) = true
    · rw [if_pos hk] at q
      split at q
      · rename_i a ha
        by_cases hy : (y == n) = true
        · rw [List.lookup_cons, hy] at q
          rw [eq_of_beq hy, ha]; exact q
        · have : (y == n) = false := by simpa using hy
          rw [List.lookup_cons, this] at q
          exact h y d q
      · exact h y d q
    · rw [if_neg hk] at q
      exact h y d q
theorem relabel_lookup (env : Env) : ∀ (names : List (Str × NameKind)) (x : Str), (names.map fun (n, k) => if (k == NameKind.free && env.scope.kind == .function && env.kindOf n == some .cell) then (n, NameKind.cell) else (n, k)).lookup x =
    (names.lookup x).map fun k => if (k == NameKind.free && env.scope.kind == .function && env.kindOf x == some .cell) then NameKind.cell else k
  | [], x => rfl
  | (n, k) :: r, x => by
    have ih := relabel_lookup env r x
    rw [List.map_cons]
    by_cases hx : (x == n) = true
    · have e := eq_of_beq hx
      subst e
      dsimp only
      split
      · rename_i hc
        rw [List.lookup_cons, hx, List.lookup_cons, hx]
        dsimp only [Option.map_some]
        rw [if_pos hc]
      · rename_i hc
        rw [List.lookup_cons, hx, List.lookup_cons, hx]
        dsimp only [Option.map_some]
        rw [if_neg hc]
    · have hx' : (x == n) = false := by simpa using hx
      dsimp only
      split
      · rw [List.lookup_cons, hx', List.lookup_cons, hx']; exact ih
      · rw [List.lookup_cons, hx', List.lookup_cons, hx']; exact ih

/-! ### a turn of a comprehension -/
section
variable {prog : Program} {w : World} {A : Around} {R : Result → Shared → Prop} {s : Shared}
abbrev NoX : Value → Shared → Prop := fun _ _ => False
theorem compLoop_any {elt target iter : Expr} {ifs : List Expr} {scope : Scope} {pos : Pos} {it acc : Value} {env : Env} (I : Nat → Shared → Prop)
    (turn : ∀ n s, I n s → wpAny (model prog w) A (pyNext it) (fun r s₁ => match r with
      | none => R (.ok .next) s₁
      | some v => wpAny (model prog w) A (letOwnedTupleGo target it v) (fun _ s₀ => wpAny (model prog w) A (assign target env v) (fun _ s₂ =>
          wpAny (model prog w) A (forIn ifs true fun c r => if r = true then do let ok ← isTrue c env (eval c env); pure (ForInStep.yield ok) else pure (ForInStep.yield r)) (fun ok s₃ =>
            if ok = true then wpAny (model prog w) A (eval elt env) (fun x s₄ => wpAny (model prog w) A (call (.builtin "list.append") [acc, x]) (fun _ s₅ => ∃ m, m < n ∧ I m s₅) NoX s₄) NoX s₃
            else ∃ m, m < n ∧ I m s₃) NoX s₂) NoX s₀) NoX s₁) NoX s)
    (n : Nat) (h : I n s) : codeAny (model prog w) A (.compLoop (.ListComp elt [⟨target, iter, ifs, 0⟩] scope pos) 0 it acc env) R s := by
  refine codeAny_loop rfl I (fun n s hI => ?_) n h
  show wpAny _ A ((compTurn (.ListComp elt [⟨target, iter, ifs, 0⟩] scope pos) 0 it acc env).onRaise (fun x => do noteFrame x env; theTreesLotGoes x)) _ _ s
  refine wpAny_noted ?_
  rw [compTurn_list]
  refine wpAny_bind (wpAny_standAt (wpAny_bind (wpAny_mono (turn n s hI) (fun r s₁ h₁ => ?_) fun _ _ z => z.elim)))
  cases r with
  | none => exact wpAny_pure h₁
  | some v =>
    refine wpAny_bind (wpAny_mono h₁ (fun _ s₀ h₀ => ?_) fun _ _ z => z.elim)
    refine wpAny_bind (wpAny_mono h₀ (fun _ s₂ h₂ => wpAny_bind (wpAny_mono h₂ (fun ok s₃ h₃ => ?_) fun _ _ z => z.elim)) fun _ _ z => z.elim)
    cases ok with
    | false => exact wpAny_pure ⟨rfl, h₃⟩
    | true =>
      exact wpAny_bind (wpAny_bind (wpAny_mono h₃ (fun x s₄ h₄ => wpAny_bind (wpAny_mono h₄ (fun _ s₅ h₅ => wpAny_pure (wpAny_pure ⟨rfl, h₅⟩)) fun _ _ z => z.elim)) fun _ _ z => z.elim))
end

/-! ### an object of ours comes to be tracked -/
theorem HOk.track {P : Program} {w : World} {H : Hp} {h : Heap} {a : Addr} {o : HO} (x : HOk P w H h) (hn : H a = none) (new : ObjOk P w (upd H a o) h a o) : HOk P w (upd H a o) h := fun b u e => by
  by_cases hb : b = a
  · subst hb; rw [upd_same] at e; cases e; exact new
  · rw [upd_ne hb] at e
    exact (x b u e).stay (fun c v _ q => q) (fun c q => by rw [upd_ne (ne_of_none q hn)]; exact q) fun c xs q => by rw [upd_ne (ne_of_none q hn)]; exact q
theorem Inv.track {X : Cx} {pins : List (Addr × Obj)} {σ : L2.St} {H : Hp} {s : Shared} {a : Addr} {o : HO} (I : Inv X pins σ H s) (hf : FpOk X pins H a) (new : ObjOk X.prog X.w (upd H a o) s.heap a o) : Inv X pins σ (upd H a o) s := by
  obtain ⟨f0, f1, f2, f3, f4, f5⟩ := hf
  refine I.step (h' := s.heap) (g' := s.gens) (t' := s.toks) (d' := s.drawn) (ch := [a]) (fun b hb => ?_) (fun b o _ _ _ e _ => e) (fun b o _ _ _ e _ => ⟨o.slots, e⟩) (fun b o hb e n => ?_) (fun b o _ e => ⟨o, e⟩)
    (fun b xs e => by rw [upd_ne (ne_of_none e f0)]; exact e) (fun b o u e => by rw [upd_ne (ne_of_none e f0)]; exact e) (fun b ps e => ⟨#[], by rw [upd_ne (ne_of_none e f0), e]; simp⟩) (fun m h => h) (HOk.track I.hok f0 new) I.bare
  · have e : b = a := by simpa using hb
    subst e
    exact ⟨f3, f1, f4, f5⟩
  · rw [upd_ne (by simpa using hb)]; exact n

/-! ### the block's context -/
def cxComp (X : Cx) (N : List Str) (scope : Scope) (C : Addr) (fp : List Addr) (s : Shared) (H : Hp) : Cx :=
  { X with N := N, s₀ := s, H₀ := H, env := compEnvC scope (closL X.env.cells scope.names []) C X.env, outer := X.stack, ex := fp, fn := fun _ => false, pn := [], xe := fun _ _ => False }
def innerS (src : List (Option Nat)) (σ : L2.St) : L2.St := src.map fun o => o.bind fun i => (σ[i]?).bind id
/-- what is asked of a comprehension's scope -/
structure CompScope (X : Cx) (N : List Str) (src : List (Option Nat)) (scope : Scope) : Prop where
  kind : scope.kind = .function
  cell : ∀ y ∈ scope.names, y.2 ≠ .cell
  free : ∀ y ∈ scope.names, y.2 = .free → X.env.kindOf y.1 = some .cell ∨ X.env.kindOf y.1 = some .free
  loc : ∀ y ∈ scope.names, y.2 = .local → scope.names.lookup y.1 = some .local
  len : src.length = N.length
  src : ∀ (j i : Nat), src[j]? = some (some i) → ∃ x, N[j]? = some x ∧ X.N[i]? = some x ∧ scope.names.lookup x = some .free
section
variable {X : Cx} {pins : List (Addr × Obj)} {σ : L2.St} {H : Hp} {s : Shared}
theorem mem_lookup {names : List (Str × NameKind)} {x : Str} {k : NameKind} (h : names.lookup x = some k) : (x, k) ∈ names := PySem.mem_of_lookup h
theorem comp_clos {N : List Str} {src : List (Option Nat)} {scope : Scope} (S : CompScope X N src scope) (I : Inv X pins σ H s) : closureFor scope X.env = pure (closL X.env.cells scope.names []) :=
  closureFor_of fun x hx hk => I.ok.has x.1 (S.free x hx hk)
theorem comp_ok {N : List Str} {src : List (Option Nat)} {scope : Scope} {C : Addr} {fp : List Addr} (S : CompScope X N src scope) (I : Inv X pins σ H s) (hC : s.heap.objs.size ≤ C) (hfp : ∀ b ∈ fp, FpOk X pins H b) (hlt : ∀ b ∈ fp, b < s.heap.objs.size) : (cxComp X N scope C fp s H).Ok where
  mod := I.ok.mod
  kind := S.kind
  glob := I.ok.glob
  blt := I.ok.blt
  above := hC
  inj := fun x y c h1 h2 => I.ok.inj x y c (closL_out _ [] (fun _ _ z => nomatch z) x c h1) (closL_out _ [] (fun _ _ z => nomatch z) y c h2)
  has := fun x h => by
    have e : (cxComp X N scope C fp s H).env.kindOf x = (scope.names.lookup x).map fun k => if (k == NameKind.free && X.env.scope.kind == .function && X.env.kindOf x == some .cell) then NameKind.cell else k := relabel_lookup X.env scope.names x
    rw [e] at h
    cases q : scope.names.lookup x with
    | none => rw [q] at h; rcases h with h | h <;> cases h
    | some k =>
      have hk : k = .free := by
        rw [q] at h
        simp only [Option.map_some, Option.some.injEq] at h
        by_cases hc : (k == NameKind.free && X.env.scope.kind == .function && X.env.kindOf x == some .cell) = true
        · simp only [Bool.and_eq_true] at hc
          exact eq_of_beq hc.1.1
        · rw [if_neg hc] at h
          rcases h with h | h
          · subst h; exact absurd rfl (S.cell _ (mem_lookup q))
          · exact h
      subst hk
      have hm := mem_lookup q
      obtain ⟨c, hc⟩ := I.ok.has x (S.free _ hm rfl)
      exact ⟨c, closL_in hc _ _ (.inl hm)⟩
  cab := fun x c h => by cases h
  hd := I.ok.hd
  frames := I.ok.frames
  stk := .inl rfl
  exf := fun b hb => ⟨Nat.ne_of_lt (Nat.lt_of_lt_of_le (hlt b hb) hC), fun x c e => (hfp b hb).2.2.2.2.1 x c (closL_out _ [] (fun _ _ z => nomatch z) x c e)⟩
  bs := I.bs
  bsz := Nat.le_trans I.ok.bsz I.sz
  noex := fun b o e hb => by
    rcases (hfp b hb).2.2.2.1 with z | z
    · exact I.ok.noex b o e z
    · exact absurd (Nat.lt_of_lt_of_le (Heap.lt_size e) (Nat.le_trans I.ok.bsz z)) (Nat.lt_irrefl _)
  exfs := fun b hb hf => by
    have f := hfp b hb
    rcases List.mem_cons.mp (I.stkSub b hf) with z | z
    · exact f.2.1 z
    · exact f.2.2.1 z
  funs := I.stack
  frf := I.stkFree
theorem comp_start {N : List Str} {src : List (Option Nat)} {scope : Scope} {C : Addr} {fp : List Addr} {h' : Heap} {tk : Nat} {m' : Str → Option Value} (S : CompScope X N src scope) (I : Inv X pins σ H s) (hC : s.heap.objs.size ≤ C) (hfp : ∀ b ∈ fp, FpOk X pins H b) (hlt : ∀ b ∈ fp, b < s.heap.objs.size)
    (kp : ∀ b o, s.heap.get? b = some o → h'.get? b = some o) (ns : h'.Ns C m') : Inv (cxComp X N scope C fp s H) [] (innerS src σ) H { s with heap := h', toks := tk } := by
  have O := comp_ok S I hC hfp hlt
  refine ⟨O, rfl, I.bare, Un.kept kp, ⟨m', ns, fun j x v hN hσ hv => ?_⟩, fun x c e => ?_, I.hok.fresh hC, fun x c e => ?_, fun p hp => absurd (show p ∈ ([] : List (Addr × Obj)) from hp) (by simp), I.hok.kept kp, ?_⟩
  · unfold innerS at hσ
    rw [List.getElem?_map] at hσ
    cases q : src[j]? with
    | none => rw [q] at hσ; cases hσ
    | some o =>
      rw [q] at hσ
      cases o with
      | none => cases hσ
      | some i =>
        obtain ⟨x', e1, e2, e3⟩ := S.src j i q
        have hN : N[j]? = some x := hN
        rw [hN] at e1
        cases e1
        have hi : σ[i]? = some (some v) := by
          cases z : σ[i]? with
          | none => simp [z] at hσ
          | some w =>
            cases w with
            | none => simp [z] at hσ
            | some w => simpa [z] using hσ
        obtain ⟨m0, hn0, hl0⟩ := I.loc
        have hk := S.free _ (mem_lookup e3) rfl
        have vis : Vis X.env.scope x := by
          rcases hk with z | z
          · exact .inr (.inl z)
          · exact .inr (.inr z)
        obtain ⟨u, ru, lk⟩ := hl0 i x v e2 hi vis
        refine ⟨u, ru, ?_⟩
        rcases lk with ⟨z, _⟩ | ⟨_, c, hc, hcell⟩
        · rcases hk with y | y
          · rw [y] at z; cases z
          · rw [y] at z; cases z
        · refine .inr ⟨?_, c, closL_in hc _ _ (.inl (mem_lookup e3)), ?_⟩
          · have e : (cxComp X N scope C fp s H).env.kindOf x = (scope.names.lookup x).map fun k => if (k == NameKind.free && X.env.scope.kind == .function && X.env.kindOf x == some .cell) then NameKind.cell else k := relabel_lookup X.env scope.names x
            rw [e, e3]
            simp only [Option.map_some, Option.some.injEq]
            by_cases hc : (NameKind.free == NameKind.free && X.env.scope.kind == .function && X.env.kindOf x == some .cell) = true
            · rw [if_pos hc]; exact .inl rfl
            · rw [if_neg hc]; exact .inr rfl
          · obtain ⟨o, ho, hd⟩ := hcell
            exact ⟨o, kp c o ho, hd⟩
  · have e' := closL_out _ [] (fun _ _ z => nomatch z) x c e
    obtain ⟨v, o, ho, hd⟩ := I.cell x c e'
    exact ⟨v, o, kp c o ho, hd⟩
  · exact I.freeC x c (closL_out _ [] (fun _ _ z => nomatch z) x c e)
  · unfold innerS
    rw [List.length_map]
    exact S.len
end

/-! ### the block -/
def TestR (X : Cx) (ifs : List Expr) (tt : TT) : Prop := ∀ (pins : List (Addr × Obj)) (s : Shared) (σ : L2.St) (H : Hp) (Q : Bool → Hp → Prop), Inv X pins σ H s → tt σ H Q →
  wpAny (model X.prog X.w) X.A (forIn ifs true fun c r => if r = true then do let ok ← isTrue c X.env (eval c X.env); pure (ForInStep.yield ok) else pure (ForInStep.yield r)) (TP X pins σ Q) X.xe s
theorem test_nil {X : Cx} : TestR X [] (fun _ H Q => Q true H) := fun pins s σ H Q I h => by
  show wpAny _ _ (pure true) _ _ _
  exact wpAny_pure ⟨H, I, h⟩
theorem test_one {X : Cx} {c : Expr} {tc : TT} (hc : PT X c tc) : TestR X [c] tc := fun pins s σ H Q I h => by
  rw [List.forIn_cons]
  simp only [if_true]
  refine wpAny_bind (wpAny_bind (thn (hc pins s σ H Q I h) fun b s1 q => wpAny_pure ?_))
  show wpAny _ _ (pure b) _ _ _
  exact wpAny_pure q
theorem comp_block {X : Cx} {pins : List (Addr × Obj)} {σ : L2.St} {H : Hp} {s : Shared} {elt tg iter : Expr} {ifs : List Expr} {scope : Scope} {pos : Pos} {it : Addr} {fp : List Addr} {tn : Nat → Heap → Prop} {J : It} {N : List Str} {src : List (Option Nat)}
    {g : TG} {tt : TT} {te : TE} {E : Value → Shared → Prop} {Fin : List V → Hp → Prop} {RR : Value → Addr → Result → Shared → Prop} (hc : X.calm = true) (I : Inv X pins σ H s) (T : Turn X.prog X.w X.K tg J fp it tn) (st0 : tn 0 s.heap) (hfp : ∀ b ∈ fp, FpOk X pins H b) (S : CompScope X N src scope)
    (hg : ∀ C, PG (cxComp X N scope C fp s H) tg g) (ht : ∀ C, TestR (cxComp X N scope C fp s H) ifs tt) (he : ∀ C, PE (cxComp X N scope C fp s H) elt te)
    (W : Nat → Nat → List V → L2.St → Hp → Prop) (w0 : ∃ k, W 0 k [] (innerS src σ) H)
    (step : ∀ i k acc σ H, W i k acc σ H → (J.stop i H ∧ acc.length ≤ sizeLine ∧ Fin acc H) ∨ (J.go i H ∧ acc.length < sizeLine ∧ ∀ x H', J.yld i H x H' → g x σ H' fun σ2 H2 => tt σ2 H2 fun b H3 =>
      if b = true then te σ2 H3 fun v H4 => ∃ k', k' < k ∧ W (i + 1) k' (acc ++ [v]) σ2 H4 else ∃ k', k' < k ∧ W (i + 1) k' acc σ2 H3))
    (hRR : ∀ D C s' H' acc, Fin acc H' → H' D = none → Inv X pins σ (upd H' D (.lst acc)) s' → FpOk X pins (upd H' D (.lst acc)) C → (∃ m, s'.heap.Ns C m) → RR (.ref D) C (.ok .next) s') :
    wpAny (model X.prog X.w) X.A (newList []) (fun acc s₃ => wpAny (model X.prog X.w) X.A (newFunctionEnv scope X.env.globals (closL X.env.cells scope.names []) [] X.env.qual none .none (some X.env)) (fun cenv s₄ =>
      codeAny (model X.prog X.w) X.A (.compStart (.ListComp elt [⟨tg, iter, ifs, 0⟩] scope pos) 0 (.ref it) acc { cenv with scope := relabel scope X.env }) (RR acc cenv.locals) s₄) E s₃) E s := by
  have hlt : ∀ b ∈ fp, b < s.heap.objs.size := fun b hb => by obtain ⟨o, e, _⟩ := T.obj 0 _ st0 b hb; exact Heap.lt_size e
  refine wpAny_newObj_type (wpAny_newFunctionEnv S.cell (by intro y hy; simp at hy) (fun h₁ hns₁ hsb₁ => ?_) S.kind)
  dsimp only at hns₁ hsb₁ ⊢
  generalize hH2 : s.heap.push { cls := .type "list", dict := none, data := .seq ([] : List Value).toArray } = H2 at hns₁ hsb₁ ⊢
  have hC : H2.objs.size = s.heap.objs.size + 1 := by rw [← hH2, Heap.size_push]
  have hDC : s.heap.objs.size ≠ H2.objs.size := by rw [hC]; exact Nat.ne_of_lt (Nat.lt_succ_self _)
  have hCle : s.heap.objs.size ≤ H2.objs.size := by rw [hC]; exact Nat.le_succ _
  have old : ∀ b o, s.heap.get? b = some o → h₁.get? b = some o := fun b o e => hsb₁.extBut b o (by rw [hC]; exact Nat.ne_of_lt (Nat.lt_succ_of_lt (Heap.lt_size e))) (Heap.get?_push_of_some _ (hH2 ▸ Heap.get?_push_of_some _ e))
  have hacc : h₁.get? s.heap.objs.size = some { cls := .type "list", data := .seq ([] : List Value).toArray } := hsb₁.extBut _ _ hDC (Heap.get?_push_of_some _ (hH2 ▸ Heap.get?_push_size _ rfl))
  -- the block's own names
  generalize hDd : s.heap.objs.size = Dd at hDC hCle hacc
  generalize hCc : H2.objs.size = Cc at hDC hCle hns₁ hsb₁ hC ⊢
  have hDs : s.heap.objs.size ≤ Dd := Nat.le_of_eq hDd
  have hCs : s.heap.objs.size ≤ Cc := by rw [hDd]; exact hCle
  have fD : H Dd = none := I.hok.fresh hDs
  have I1 : Inv (cxComp X N scope Cc fp s H) [] (innerS src σ) H { s with heap := h₁, toks := s.toks + ([] : List (Str × Value)).length } := comp_start S I hCs hfp hlt old hns₁
  have nfp : ∀ b ∈ fp, b ≠ Dd := fun b hb => by rw [← hDd]; exact Nat.ne_of_lt (hlt b hb)
  have cellD : ∀ x c, (cxComp X N scope Cc fp s H).env.cells.lookup x = some c → c ≠ Dd := fun x c e z => by
    have e' := closL_out _ [] (fun _ _ z => nomatch z) x c e
    obtain ⟨v, o, ho, _⟩ := I.cell x c e'
    rw [z, ← hDd] at ho
    exact Nat.lt_irrefl _ (Heap.lt_size ho)
  have fsD : Dd ∉ (cxComp X N scope Cc fp s H).fs := fun z => by
    obtain ⟨_, o, ho, _⟩ := I1.ok.funs.mem z
    have ho : s.heap.get? Dd = some o := ho
    rw [← hDd] at ho
    exact Nat.lt_irrefl _ (Heap.lt_size ho)
  have stat : ∀ {pl : List (Addr × Obj)} {H' : Hp}, (∀ p ∈ pl, p.1 = Dd) → (∀ b ∈ fp, H' b = none) → ∀ b ∈ fp, FpOk (cxComp X N scope Cc fp s H) pl H' b := fun {pl H'} hpl hn b hb =>
    ⟨hn b hb, (I1.ok.exf b hb).1, I1.ok.exfs b hb, .inl hb, (I1.ok.exf b hb).2, fun p hp => by
      have hp' : p ∈ pl := hp
      rw [hpl p hp']; exact (nfp b hb).symm⟩
  obtain ⟨k0, w0⟩ := w0
  have loop : ∀ s₃ : Shared, s₃ = { s with heap := h₁, toks := s.toks + ([] : List (Str × Value)).length } →
      codeAny (model X.prog X.w) X.A (.compLoop (.ListComp elt [⟨tg, iter, ifs, 0⟩] scope pos) 0 (.ref it) (.ref Dd) (compEnvC scope (closL X.env.cells scope.names []) Cc X.env)) (RR (.ref Dd) Cc) s₃ := by
    rintro s₃ rfl
    refine compLoop_any (fun k s' => ∃ i acc its nn σ' H', Inv (cxComp X N scope Cc fp s H) [] σ' H' s' ∧ tn i s'.heap ∧ (∀ b ∈ fp, H' b = none) ∧ W i k acc σ' H' ∧ Vals acc its ∧ s'.heap.get? Dd = some { cls := .type "list", data := .seq its.toArray nn } ∧ H' Dd = none) ?_ k0
      ⟨0, [], [], 0, innerS src σ, H, I1, T.keep _ _ _ st0 fun b _ o e => old b o e, fun b hb => (hfp b hb).1, w0, .nil, hacc, fD⟩
    rintro k s3 ⟨i, acc, its, nn, σ3, H3, I3, t3, fr3, w3, rv, ho3, nD3⟩
    have I3' : Inv (cxComp X N scope Cc fp s H) [(Dd, { cls := .type "list", data := .seq its.toArray nn })] σ3 H3 s3 := I3.pins_of fun p hp => by
      have e : p = (Dd, { cls := .type "list", data := .seq its.toArray nn }) := by simpa using hp
      subst e
      exact ⟨ho3, nD3, hDC, fsD, fun v z => by
        have z' : Data.seq its.toArray nn = Data.cell v := z
        cases z'⟩
    rcases step i k acc σ3 H3 w3 with ⟨stop, hz, fin⟩ | ⟨go, hz, next⟩
    · refine thn (T.done (cxComp X N scope Cc fp s H) rfl rfl rfl hc i _ s3 σ3 H3 NoX I3' (stat (fun p hp => by rw [List.mem_singleton.mp hp]) fr3) t3 stop) fun r s4 ⟨hr, I4⟩ => ?_
      subst hr
      have p4 := I4.pin (Dd, { cls := .type "list", data := .seq its.toArray nn }) (List.mem_append_right _ (by simp))
      have I5 : Inv X pins σ H3 s4 := I.call' I4.os I4.base I4.hok I4.bare fun b hb => ⟨(hfp b hb).2.2.2.1, (hfp b hb).2.1, (hfp b hb).2.2.2.2.1, (hfp b hb).2.2.2.2.2⟩
      have fpD : FpOk X pins H3 Dd := I.fpOk hDs nD3
      refine hRR Dd Cc s4 H3 acc fin nD3 (Inv.track I5 fpD ⟨hz, its, nn, rv, p4.1⟩) (I.fpOk hCs (by rw [upd_ne (Ne.symm hDC)]; exact I4.free)) ?_
      obtain ⟨m4, n4, _⟩ := I4.loc
      exact ⟨m4, n4⟩
    · refine thn (T.item (cxComp X N scope Cc fp s H) rfl rfl rfl hc i _ s3 σ3 H3 NoX I3' (stat (fun p hp => by rw [List.mem_singleton.mp hp]) fr3) t3 go) fun r s4 ⟨u, hr, h4⟩ => ?_
      subst hr
      refine thn h4 fun _ s5 ⟨x, H5, I5, r5, y5, t5, fr5⟩ => ?_
      have I5' := I5.pinned (stat (fun p hp => by rw [List.mem_singleton.mp hp]) fr5) (T.obj _ _ t5)
      refine thn (hg Cc _ s5 σ3 H5 x u _ I5' r5 (next x H5 y5)) fun _ s6 ⟨σ6, H6, I6, q6⟩ => ?_
      refine thn (ht Cc _ s6 σ6 H6 _ I6 q6) fun b s7 ⟨H7, I7, q7⟩ => ?_
      have back : ∀ {σ8 : L2.St} {H8 : Hp} {s8 : Shared}, Inv (cxComp X N scope Cc fp s H) ([(Dd, { cls := .type "list", data := .seq its.toArray nn })] ++ pinsAt fp s5.heap) σ8 H8 s8 →
          tn (i + 1) s8.heap ∧ (∀ b ∈ fp, H8 b = none) ∧ s8.heap.get? Dd = some { cls := .type "list", data := .seq its.toArray nn } ∧ H8 Dd = none := fun {σ8 H8 s8} I8 => by
        refine ⟨T.keep _ _ _ t5 fun b hb o e => (I8.pin (b, o) (List.mem_append_right _ (List.mem_append_right _ (mem_pinsAt hb e)))).1, fun b hb => ?_, ?_, ?_⟩
        · obtain ⟨o, e, d⟩ := T.obj _ _ t5 b hb
          exact (I8.pin (b, o) (List.mem_append_right _ (List.mem_append_right _ (mem_pinsAt hb e)))).2.1
        · exact (I8.pin (Dd, _) (List.mem_append_right _ (List.mem_append_left _ (by simp)))).1
        · exact (I8.pin (Dd, { cls := .type "list", data := .seq its.toArray nn }) (List.mem_append_right _ (List.mem_append_left _ (by simp)))).2.1
      cases b with
      | false =>
        simp only [Bool.false_eq_true, if_false] at q7 ⊢
        obtain ⟨k', hk, w7⟩ := q7
        obtain ⟨b1, b2, b3, b4⟩ := back I7
        exact ⟨k', hk, i + 1, acc, its, nn, σ6, H7, I7.pins_of fun p hp => absurd hp (by simp), b1, b2, w7, rv, b3, b4⟩
      | true =>
        simp only [if_true] at q7 ⊢
        refine thn (he Cc _ s7 σ6 H7 _ I7 q7) fun y s8 ⟨v8, H8, I8, r8, k', hk, w8⟩ => ?_
        obtain ⟨b1, b2, b3, b4⟩ := back I8
        have l1 := rv.length
        refine call_meets F.slot_list_append ⟨_, b3, rfl⟩ F.entry_list_append (F.args_list_append_2 _ _) (PySem.list_append Dd its.toArray nn y (by rw [List.size_toArray]; omega)) ⟨b3, ?_⟩
        have q := PySem.IsL.update b3 (fun a => a.push y)
        have hpush : its.toArray.push y = (its ++ [y]).toArray := by simp
        rw [hpush] at q
        have I9 : Inv (cxComp X N scope Cc fp s H) [] σ6 H8 s8 := I8.pins_of fun p hp => absurd hp (by simp)
        have I10 : Inv (cxComp X N scope Cc fp s H) [] σ6 H8 { s8 with heap := s8.heap.update Dd (Obj.mapSeq (·.push y)) } :=
          I9.turned (it := Dd) (t' := s8.toks) (fun b o hb e => (Heap.get?_update_other s8.heap _ (Ne.symm hb)).trans e) b4 hDC (.inr hDs) cellD fun p hp => absurd (show p ∈ ([] : List (Addr × Obj)) from hp) (by simp)
        exact ⟨k', hk, i + 1, acc ++ [v8], its ++ [y], _, σ6, H8, I10, T.keep _ _ _ b1 fun b hb o e => (Heap.get?_update_other s8.heap _ (Ne.symm (nfp b hb))).trans e, b2, w8, rv.append (.cons r8 .nil), q, b4⟩
  exact codeAny_compStart_list (loop _ rfl) (T.self _ 0 _ _ _ (T.keep _ _ _ st0 fun b _ o e => old b o e) (loop _ rfl))

/-! ### the reading of a comprehension -/
def tComp (src : List (Option Nat)) (wi : TI) (g : TG) (tt : TT) (te : TE) : TE := fun σ H Q => wi σ H fun J H1 => ∃ W : Nat → Nat → List V → L2.St → Hp → Prop, (∃ k, W 0 k [] (innerS src σ) H1) ∧
  ∀ i k acc σ' H', W i k acc σ' H' → (J.stop i H' ∧ acc.length ≤ sizeLine ∧ ∀ p, H' p = none → Q (.ref p) (upd H' p (.lst acc))) ∨ (J.go i H' ∧ acc.length < sizeLine ∧ ∀ x H2, J.yld i H' x H2 → g x σ' H2 fun σ2 H3 => tt σ2 H3 fun b H4 =>
    if b = true then te σ2 H4 fun v H5 => ∃ k', k' < k ∧ W (i + 1) k' (acc ++ [v]) σ2 H5 else ∃ k', k' < k ∧ W (i + 1) k' acc σ2 H4)
theorem pe_comp {X : Cx} {elt tg iter : Expr} {ifs : List Expr} {scope : Scope} {pos : Pos} {N : List Str} {src : List (Option Nat)} {wi : TI} {g : TG} {tt : TT} {te : TE} (hc : X.calm = true) (S : CompScope X N src scope) (hi : PI X tg iter wi)
    (hg : ∀ C fp s H, PG (cxComp X N scope C fp s H) tg g) (ht : ∀ C fp s H, TestR (cxComp X N scope C fp s H) ifs tt) (he : ∀ C fp s H, PE (cxComp X N scope C fp s H) elt te)
    (hs : ∀ x, foldedSetIterable iter X.env x = pure x := by intro _; rfl) : PE X (.ListComp elt [⟨tg, iter, ifs, 0⟩] scope pos) (tComp src wi g tt te) := by
  intro pins s σ H Q I h
  rw [eval_ListComp]
  refine wpAny_comprehension_free (use := none) rfl hs (comp_clos S I) S.kind S.loc (thn (hi pins s σ H _ I h) fun v s1 h1 => thn h1 fun itv s2 h2 => ?_)
  obtain ⟨it, fp, tn, J, H2, e, I2, T, st2, f2, W, w0, turn⟩ := h2
  subst e
  refine comp_block hc I2 T st2 f2 S (fun C => hg C fp s2 H2) (fun C => ht C fp s2 H2) (fun C => he C fp s2 H2) W w0 turn ?_
  intro D C s' H' acc fin nD I' fC hm
  obtain ⟨m', hn⟩ := hm
  refine ⟨m', hn, fun h' sb => ⟨.ref D, upd H' D (.lst acc), ?_, rfl, fin D nD⟩⟩
  obtain ⟨c0, c1, c2, c3, c4, c5⟩ := fC
  exact I'.turned (t' := s'.toks) (fun b o hb e => (sb.2 b hb).trans e) c0 c1 c3 c4 c5
end MS
end
section
set_option linter.all false
set_option Elab.async false
set_option maxRecDepth 100000
set_option maxHeartbeats 4000000
namespace MS
open PySem PySem.Spec PyProof.Rows L2

/-! ### several of an iterator's own objects turn -/
theorem Inv.turnedL {X : Cx} {pins : List (Addr × Obj)} {σ : L2.St} {H : Hp} {s : Shared} {h' : Heap} {t' : Nat} {ch : List Addr} (I : Inv X pins σ H s) (k : ∀ b o, b ∉ ch → s.heap.get? b = some o → h'.get? b = some o) (hf : ∀ b ∈ ch, FpOk X pins H b) : Inv X pins σ H { s with heap := h', toks := t' } := by
  have nit : ∀ b u, H b = some u → b ∉ ch := fun b u e z => by rw [(hf b z).1] at e; cases e
  refine I.step (g' := s.gens) (d' := s.drawn) (ch := ch) (fun b hb => ?_) (fun b o _ _ hc e _ => k b o hc e) (fun b o _ _ hc e _ => ⟨o.slots, k b o hc e⟩) (fun _ _ _ _ n => n) (fun b o hc e => ⟨o, k b o hc e⟩) (fun _ _ e => e) (fun _ _ _ e => e) (fun b ps e => ⟨#[], by rw [e]; simp⟩) (fun m hm => ?_) (fun b u e => ?_) I.bare
  · obtain ⟨f0, f1, f2, f3, f4, f5⟩ := hf b hb
    exact ⟨f3, f1, f4, f5⟩
  · obtain ⟨o, es, ep, ho, r⟩ := hm
    exact ⟨o, es, ep, k _ o (fun z => (hf _ z).2.1 rfl) ho, r⟩
  · refine (I.hok b u e).stay (fun c v hc q => k c v ?_ q) (fun _ q => q) fun _ _ q => q
    rcases hc with z | z
    · rw [z]; exact nit b u e
    · exact nit c _ z

/-! ### a row that is walked: a list or a tuple -/
inductive RK where
  | lst | tup
def RK.It : RK → Heap → Addr → Addr → Nat → Prop
  | .lst, h, it, a, i => h.IsListIter it a i
  | .tup, h, it, a, i => h.IsTupleIter it a i
def RK.Sq : RK → Heap → Addr → Array Value → Prop
  | .lst, h, a, xs => h.IsList a xs
  | .tup, h, a, xs => h.IsTuple a xs
theorem RK.It.on {k : RK} {h h' : Heap} {it a : Addr} {i : Nat} (x : k.It h it a i) (e : ∀ o, h.get? it = some o → h'.get? it = some o) : k.It h' it a i := by
  cases k with
  | lst => exact Heap.IsListIter.at x e
  | tup => obtain ⟨o, ho, r⟩ := x; exact ⟨o, e o ho, r⟩
theorem RK.Sq.on {k : RK} {h h' : Heap} {a : Addr} {xs : Array Value} (x : k.Sq h a xs) (e : ∀ o, h.get? a = some o → h'.get? a = some o) : k.Sq h' a xs := by
  cases k with
  | lst => exact Heap.IsList.at x e
  | tup => obtain ⟨o, ho, r⟩ := x; exact ⟨o, e o ho, r⟩
theorem RK.It.obj {k : RK} {h : Heap} {it a : Addr} {i : Nat} (x : k.It h it a i) : ∃ o, h.get? it = some o ∧ ∀ v, o.data ≠ .cell v := by
  cases k with
  | lst => obtain ⟨o, ho, _, d⟩ := x; exact ⟨o, ho, fun v z => by rw [d] at z; cases z⟩
  | tup => obtain ⟨o, ho, _, d⟩ := x; exact ⟨o, ho, fun v z => by rw [d] at z; cases z⟩
section
variable {prog : Program} {w : World} {A : Around} {E : Value → Shared → Prop} {s : Shared}
theorem draw_some {k : RK} {it a : Addr} {i : Nat} {xs : Array Value} {x : Value} {Q : Value → Shared → Prop} (hi : k.It s.heap it a i) (hs : k.Sq s.heap a xs) (hx : xs[i]? = some x)
    (hQ : ∀ h', k.It h' it a (i + 1) → (∀ b o, b ≠ it → s.heap.get? b = some o → h'.get? b = some o) → h'.objs.size = s.heap.objs.size → Q x { s with heap := h' }) : wpAny (model prog w) A (Builtin.SmallTypes.nextOf (.ref it)) Q E s := by
  cases k with
  | lst => exact wpAny_nextOf_list_item hi hs hx fun h' a1 a2 => hQ h' a1 a2.extBut a2.1
  | tup =>
    obtain ⟨o, e1, e2, e3⟩ := id hi
    obtain ⟨q, f1, _, m, f2⟩ := hs
    unfold Builtin.SmallTypes.nextOf
    refine wpAny_bind (wpAny_callSpecial?_slot (name := Str.ofString "__next__") (Heap.IsTupleIter.typeIs hi) F.slot_tuple_iterator_next (wpAny_call_entry F.slot_tuple_iterator_next (Heap.IsTupleIter.typeIs hi) F.entry_tuple_iterator_next ?_ (F.args_tuple_iterator_next_1 _)))
    show wpAny _ _ (field (.ref it) 0 >>= _) _ _ _
    refine wpAny_bind (wpAny_field e1 e3 (x := .ref a) rfl ?_)
    show wpAny _ _ (if (Value.ref a == Value.none) = true then _ else _) _ _ _
    rw [if_neg (show ¬ ((Value.ref a == Value.none) = true) from fun z => nomatch z)]
    show wpAny _ _ (field (.ref it) 1 >>= _) _ _ _
    refine wpAny_bind (wpAny_field e1 e3 (x := .int i 0) rfl ?_)
    show wpAny _ _ (seqItems? (.ref a) >>= _) _ _ _
    refine wpAny_bind (wpAny_seqItems f1 f2 ?_)
    simp only [Int.toNat_natCast, hx]
    refine wpAny_bind (wpAny_setField e1 e3 (by simp) (wpAny_pure ⟨x, rfl, wpAny_pure (hQ _ ?_ (Heap.SameBut.update ..).extBut (Heap.SameBut.update ..).1)⟩))
    exact ⟨_, Heap.get?_update_self _ e1 (Obj.isFreed_of_fields (Obj.data_mapFields e3 _)), (Obj.cls_mapFields ..).trans e2, by rw [Obj.data_mapFields e3]; simp [rawInt]⟩
theorem draw_none {k : RK} {it a : Addr} {i : Nat} {xs : Array Value} {Q : Value → Shared → Prop} (hh : A.handled = none) (hi : k.It s.heap it a i) (hs : k.Sq s.heap a xs) (hx : xs[i]? = none)
    (hE : ∀ h' e, (∀ b o, b ≠ it → s.heap.get? b = some o → h'.get? b = some o) → (∃ o, h'.get? e = some o ∧ o.cls = .type "StopIteration") → E (.ref e) { s with heap := h' }) : wpAny (model prog w) A (Builtin.SmallTypes.nextOf (.ref it)) Q E s := by
  cases k with
  | lst => exact wpAny_nextOf_list_end hh hi hs hx fun h' e a1 a2 => hE h' e a1 a2
  | tup =>
    obtain ⟨o, e1, e2, e3⟩ := id hi
    obtain ⟨q, f1, _, m, f2⟩ := hs
    unfold Builtin.SmallTypes.nextOf
    refine wpAny_bind (wpAny_callSpecial?_slot (name := Str.ofString "__next__") (Heap.IsTupleIter.typeIs hi) F.slot_tuple_iterator_next (wpAny_call_entry F.slot_tuple_iterator_next (Heap.IsTupleIter.typeIs hi) F.entry_tuple_iterator_next ?_ (F.args_tuple_iterator_next_1 _)))
    show wpAny _ _ (field (.ref it) 0 >>= _) _ _ _
    refine wpAny_bind (wpAny_field e1 e3 (x := .ref a) rfl ?_)
    show wpAny _ _ (if (Value.ref a == Value.none) = true then _ else _) _ _ _
    rw [if_neg (show ¬ ((Value.ref a == Value.none) = true) from fun z => nomatch z)]
    show wpAny _ _ (field (.ref it) 1 >>= _) _ _ _
    refine wpAny_bind (wpAny_field e1 e3 (x := .int i 0) rfl ?_)
    show wpAny _ _ (seqItems? (.ref a) >>= _) _ _ _
    refine wpAny_bind (wpAny_seqItems f1 f2 ?_)
    simp only [Int.toNat_natCast, hx]
    refine wpAny_bind (wpAny_rule (wpAny_bind (wpAny_setField e1 e3 (by simp) ?_))); show wpAny _ _ (newExc (.type "StopIteration") [] >>= _) _ _ _
    refine wpAny_bind ?_; simp only [newExc, newTuple]
    refine wpAny_bind (wpAny_newObj_type ?_ (by size_fits)); refine wpAny_bind (m := firstArgMember _ _) (wpAny_of_eq (a := Value.none) (by first | rfl | (simp only [firstArgMember]; rfl)) ?_)
    refine wpAny_newObj_type ?_ (by size_fits); simp only [raiseNew]
    refine wpAny_bind (wpAny_handled ?_)
    first | rw [show A.in1.handled = none from hh] | (rw [hh])
    refine wpAny_bind (wpAny_pure (wpAny_throw ?_))
    exact hE _ _ (((Heap.SameBut.update ..).extBut.push _).push _) ⟨_, Heap.get?_push_size _ rfl, by rfl⟩
end
section
variable {prog : Program} {w : World} {A : Around} {E : Value → Shared → Prop} {s : Shared}
theorem pair_put {T : Addr} {a b x : Value} {j : Nat} {Q : Unit → Shared → Prop} (hT : IsPair s.heap T a b)
    (h : ∀ h', h'.get? T = some { cls := .type "tuple", data := .seq ((#[a, b] : Array Value).setIfInBounds j x) } → (∀ c o, c ≠ T → s.heap.get? c = some o → h'.get? c = some o) → h'.objs.size = s.heap.objs.size → Q () { s with heap := h' }) :
    wpAny (model prog w) A (updateSeq T (·.setIfInBounds j x)) Q E s :=
  wpAny_updateSeq_pair hT fun h' a1 a2 => h h' a1 a2.extBut a2.1
theorem zip_get {n l1 l2 : Nat} {k1 k2 : RK} {i : Nat} {xs ys : Array Value} {x y a b : Value} {Q : Option Value → Shared → Prop} (n1 : l1 < n) (n2 : l2 < n)
    (hz : IsZip s.heap (n + 4) (n + 2) (n + 3) .none) (hI : IsPair s.heap (n + 2) (.ref n) (.ref (n + 1))) (hO : IsPair s.heap (n + 3) a b) (h1 : k1.It s.heap n l1 i) (h2 : k2.It s.heap (n + 1) l2 i) (s1 : k1.Sq s.heap l1 xs) (s2 : k2.Sq s.heap l2 ys) (hx : xs[i]? = some x) (hy : ys[i]? = some y)
    (hQ : ∀ h', IsZip h' (n + 4) (n + 2) (n + 3) (rawInt s.heap.objs.size) → IsPair h' (n + 2) (.ref n) (.ref (n + 1)) → IsPair h' (n + 3) x y → k1.It h' n l1 (i + 1) → k2.It h' (n + 1) l2 (i + 1) → IsPair h' s.heap.objs.size x y →
      (∀ c o, c ≠ n + 4 → c ≠ n + 3 → c ≠ n → c ≠ n + 1 → s.heap.get? c = some o → h'.get? c = some o) → Q (some (.ref s.heap.objs.size)) { s with heap := h' }) :
    wpAny (model prog w) A (pyNext (.ref (n + 4))) Q E s := by
  have hT : s.TypeIs (.ref (n + 4)) "zip" := ⟨_, hz, rfl⟩
  unfold pyNext
  refine wpAny_bind (wpAny_attempt (wpAny_callSpecial?_slot (name := Str.ofString "__next__") hT F.slot_zip_next (wpAny_call_entry F.slot_zip_next hT F.entry_zip_next ?_ (F.args_zip_next_1 _))))
  show wpAny _ _ (field (.ref (n + 4)) 2 >>= _) _ _ _
  refine wpAny_bind (wpAny_field hz rfl (x := .bool false) rfl ?_)
  show wpAny _ _ (field (.ref (n + 4)) 3 >>= _) _ _ _
  refine wpAny_bind (wpAny_field hz rfl (x := .ref (n + 2)) rfl ?_)
  refine wpAny_bind (wpAny_seqItems hI rfl ?_)
  show wpAny _ _ (Builtin.SmallTypes.ownedTupleIsFree (.ref (n + 4)) >>= _) _ _ _
  refine wpAny_bind ?_
  unfold Builtin.SmallTypes.ownedTupleIsFree
  refine wpAny_bind (wpAny_field hz rfl (x := .none) rfl (wpAny_pure ?_))
  simp only [if_true]
  refine wpAny_bind (wpAny_rule ?_)
  refine wpAny_bind (wpAny_field hz rfl (x := .ref (n + 3)) rfl ?_)
  refine wpAny_bind (wpAny_setField_rec hz (by simp) fun g1 z1 u1 => ?_)
  replace z1 : IsZip g1 (n + 4) (n + 2) (n + 3) .ellipsis := z1
  have v1 := u1.extBut
  refine wpAny_bind ?_
  simp only [List.zipIdx_cons, List.zipIdx_nil, List.forIn_cons, List.forIn_nil]
  refine wpAny_bind (wpAny_bind (wpAny_onRaise ?_)); show wpAny _ _ (Builtin.SmallTypes.nextOf (.ref n) >>= _) _ _ _
  refine wpAny_bind (draw_some (s := { s with heap := g1 }) (h1.on fun o e => v1 _ o (by show @Ne Nat _ _; omega) e) (s1.on fun o e => v1 _ o (by show @Ne Nat _ _; omega) e) hx fun g2 i2 v2 c2 => wpAny_pure ?_)
  have O2 : IsPair g2 (n + 3) a b := v2 _ _ (by show @Ne Nat _ _; omega) (v1 _ _ (by show @Ne Nat _ _; omega) hO)
  refine wpAny_bind (wpAny_seqItems O2 rfl ?_)
  refine wpAny_bind (pair_put O2 fun g3 O3 v3 c3 => ?_)
  replace O3 : IsPair g3 (n + 3) x b := O3
  refine wpAny_bind (wpAny_letGo (wpAny_pure ?_))
  refine wpAny_bind (wpAny_bind (wpAny_onRaise ?_)); show wpAny _ _ (Builtin.SmallTypes.nextOf (.ref (n + 1)) >>= _) _ _ _
  refine wpAny_bind (draw_some (s := { s with heap := g3 }) (h2.on fun o e => v3 _ o (by show @Ne Nat _ _; omega) (v2 _ o (by show @Ne Nat _ _; omega) (v1 _ o (by show @Ne Nat _ _; omega) e))) (s2.on fun o e => v3 _ o (by show @Ne Nat _ _; omega) (v2 _ o (by show @Ne Nat _ _; omega) (v1 _ o (by show @Ne Nat _ _; omega) e))) hy fun g4 i4 v4 c4 => wpAny_pure ?_)
  have O4 : IsPair g4 (n + 3) x b := v4 _ _ (by show @Ne Nat _ _; omega) O3
  refine wpAny_bind (wpAny_seqItems O4 rfl ?_)
  refine wpAny_bind (pair_put O4 fun g5 O5 v5 c5 => ?_)
  replace O5 : IsPair g5 (n + 3) x y := O5
  refine wpAny_bind (wpAny_letGo (wpAny_pure (wpAny_pure ?_)))
  refine wpAny_bind (wpAny_seqItems O5 rfl ?_)
  refine wpAny_bind (wpAny_newTuple ?_)
  have sz : g5.objs.size = s.heap.objs.size := c5.trans (c4.trans (c3.trans (c2.trans u1.1)))
  have z5 : IsZip g5 (n + 4) (n + 2) (n + 3) .ellipsis := v5 _ _ (by show @Ne Nat _ _; omega) (v4 _ _ (by show @Ne Nat _ _; omega) (v3 _ _ (by show @Ne Nat _ _; omega) (v2 _ _ (by show @Ne Nat _ _; omega) z1)))
  have up5 : ∀ c o, c ≠ n + 4 → c ≠ n + 3 → c ≠ n → c ≠ n + 1 → s.heap.get? c = some o → g5.get? c = some o := fun c o c1 c2 c3 c4 e => v5 _ _ c2 (v4 _ _ c4 (v3 _ _ c2 (v2 _ _ c3 (v1 _ _ c1 e))))
  have j1 : k1.It g5 n l1 (i + 1) := i2.on fun o e => v5 _ o (by show @Ne Nat _ _; omega) (v4 _ o (by show @Ne Nat _ _; omega) (v3 _ o (by show @Ne Nat _ _; omega) e))
  have j2 : k2.It g5 (n + 1) l2 (i + 1) := i4.on fun o e => v5 _ o (by show @Ne Nat _ _; omega) e
  have lz : n + 4 < g5.objs.size := Heap.lt_size z5
  show wpAny _ _ (Builtin.SmallTypes.ownedTupleHandOut (.ref (n + 4)) (.ref g5.objs.size) >>= _) _ _ _
  refine wpAny_bind ?_
  unfold Builtin.SmallTypes.ownedTupleHandOut
  have z6 : IsZip (g5.push { cls := .type "tuple", data := .seq #[x, y] }) (n + 4) (n + 2) (n + 3) .ellipsis := Heap.get?_push_of_some _ z5
  refine wpAny_bind (wpAny_setField_rec z6 (by simp) fun g7 z7 u7 => ?_)
  replace z7 : IsZip g7 (n + 4) (n + 2) (n + 3) (rawInt g5.objs.size) := z7
  refine wpAny_setField_rec z7 (by simp) fun g8 z8 u8 => ?_
  replace z8 : IsZip g8 (n + 4) (n + 2) (n + 3) (rawInt g5.objs.size) := z8
  have up : ∀ c o, c ≠ n + 4 → g5.get? c = some o → g8.get? c = some o := fun c o c1 e => u8.extBut _ _ c1 (u7.extBut _ _ c1 (Heap.get?_push_of_some _ e))
  have t8 : IsPair g8 g5.objs.size x y := u8.extBut _ _ (Nat.ne_of_gt lz) (u7.extBut _ _ (Nat.ne_of_gt lz) (Heap.get?_push_size _ rfl))
  rw [sz] at z8 t8
  refine wpAny_pure ⟨_, rfl, wpAny_pure ?_⟩
  show Q (some (.ref g5.objs.size)) _
  rw [sz]
  exact hQ g8 z8 (up _ _ (by show @Ne Nat _ _; omega) (up5 _ _ (by show @Ne Nat _ _; omega) (by show @Ne Nat _ _; omega) (by show @Ne Nat _ _; omega) (by show @Ne Nat _ _; omega) hI)) (up _ _ (by show @Ne Nat _ _; omega) O5) (j1.on fun o e => up _ o (by show @Ne Nat _ _; omega) e) (j2.on fun o e => up _ o (by show @Ne Nat _ _; omega) e) t8 fun c o c1 c2 c3 c4 e => up c o c1 (up5 c o c1 c2 c3 c4 e)
theorem zip_over {n l1 l2 : Nat} {k1 k2 : RK} {i : Nat} {xs ys : Array Value} {a b : Value} {Q : Option Value → Shared → Prop} (hh : A.handled = none) (n1 : l1 < n) (n2 : l2 < n)
    (hz : IsZip s.heap (n + 4) (n + 2) (n + 3) .none) (hI : IsPair s.heap (n + 2) (.ref n) (.ref (n + 1))) (hO : IsPair s.heap (n + 3) a b) (h1 : k1.It s.heap n l1 i) (h2 : k2.It s.heap (n + 1) l2 i) (s1 : k1.Sq s.heap l1 xs) (s2 : k2.Sq s.heap l2 ys) (hend : xs[i]? = none ∨ ys[i]? = none)
    (hQ : ∀ h', (∀ c o, c ≠ n + 4 → c ≠ n + 3 → c ≠ n → c ≠ n + 1 → s.heap.get? c = some o → h'.get? c = some o) → Q none { s with heap := h' }) :
    wpAny (model prog w) A (pyNext (.ref (n + 4))) Q E s := by
  have hT : s.TypeIs (.ref (n + 4)) "zip" := ⟨_, hz, rfl⟩
  have fin : ∀ (h' : Heap) (e : Addr), (∀ c o, c ≠ n + 4 → c ≠ n + 3 → c ≠ n → c ≠ n + 1 → s.heap.get? c = some o → h'.get? c = some o) → (∃ o, h'.get? e = some o ∧ o.cls = .type "StopIteration") →
      wpAny (model prog w) A (do if (← isInstance (.ref e) (.type "StopIteration")) then pure none else (throw (Value.ref e) : Sem (Option Value))) Q E { s with heap := h' } := fun h' e hk he => by
    obtain ⟨o, ho, hc⟩ := he
    refine wpAny_bind (wpAny_isInstance (T := "StopIteration") (b := true) ⟨o, ho, hc⟩ isSubtype_stop ?_)
    exact wpAny_pure (hQ _ hk)
  unfold pyNext
  refine wpAny_bind (wpAny_attempt (wpAny_callSpecial?_slot (name := Str.ofString "__next__") hT F.slot_zip_next (wpAny_call_entry F.slot_zip_next hT F.entry_zip_next ?_ (F.args_zip_next_1 _))))
  show wpAny _ _ (field (.ref (n + 4)) 2 >>= _) _ _ _
  refine wpAny_bind (wpAny_field hz rfl (x := .bool false) rfl ?_)
  show wpAny _ _ (field (.ref (n + 4)) 3 >>= _) _ _ _
  refine wpAny_bind (wpAny_field hz rfl (x := .ref (n + 2)) rfl ?_)
  refine wpAny_bind (wpAny_seqItems hI rfl ?_)
  show wpAny _ _ (Builtin.SmallTypes.ownedTupleIsFree (.ref (n + 4)) >>= _) _ _ _
  refine wpAny_bind ?_
  unfold Builtin.SmallTypes.ownedTupleIsFree
  refine wpAny_bind (wpAny_field hz rfl (x := .none) rfl (wpAny_pure ?_))
  simp only [if_true]
  refine wpAny_bind (wpAny_rule ?_)
  refine wpAny_bind (wpAny_field hz rfl (x := .ref (n + 3)) rfl ?_)
  refine wpAny_bind (wpAny_setField_rec hz (by simp) fun g1 z1 u1 => ?_)
  replace z1 : IsZip g1 (n + 4) (n + 2) (n + 3) .ellipsis := z1
  have v1 := u1.extBut
  refine wpAny_bind ?_
  simp only [List.zipIdx_cons, List.zipIdx_nil, List.forIn_cons, List.forIn_nil]
  refine wpAny_bind (wpAny_bind (wpAny_onRaise ?_)); show wpAny _ _ (Builtin.SmallTypes.nextOf (.ref n) >>= _) _ _ _
  cases hx : xs[i]? with
  | none =>
    refine wpAny_bind (draw_none (s := { s with heap := g1 }) hh (h1.on fun o e => v1 _ o (by show @Ne Nat _ _; omega) e) (s1.on fun o e => v1 _ o (by show @Ne Nat _ _; omega) e) hx fun g2 e v2 he => ?_)
    obtain ⟨oe, ho, hc⟩ := he
    have z2 : IsZip g2 (n + 4) (n + 2) (n + 3) .ellipsis := v2 _ _ (by show @Ne Nat _ _; omega) z1
    have ez : e ≠ n + 4 := fun q => by subst q; rw [z2] at ho; cases ho; simp at hc
    exact wpAny_setField_rec z2 (by simp) fun g3 _ u3 => fin g3 e (fun c o c1 _ c3 _ q => u3.extBut _ _ c1 (v2 _ _ c3 (v1 _ _ c1 q))) ⟨oe, u3.extBut _ _ ez ho, hc⟩
  | some x =>
    have hy : ys[i]? = none := by
      rcases hend with h | h
      · rw [hx] at h; cases h
      · exact h
    refine wpAny_bind (draw_some (s := { s with heap := g1 }) (h1.on fun o e => v1 _ o (by show @Ne Nat _ _; omega) e) (s1.on fun o e => v1 _ o (by show @Ne Nat _ _; omega) e) hx fun g2 i2 v2 c2 => wpAny_pure ?_)
    have O2 : IsPair g2 (n + 3) a b := v2 _ _ (by show @Ne Nat _ _; omega) (v1 _ _ (by show @Ne Nat _ _; omega) hO)
    refine wpAny_bind (wpAny_seqItems O2 rfl ?_)
    refine wpAny_bind (pair_put O2 fun g3 O3 v3 c3 => ?_)
    refine wpAny_bind (wpAny_letGo (wpAny_pure ?_))
    refine wpAny_bind (wpAny_bind (wpAny_onRaise ?_)); show wpAny _ _ (Builtin.SmallTypes.nextOf (.ref (n + 1)) >>= _) _ _ _
    refine wpAny_bind (draw_none (s := { s with heap := g3 }) hh (h2.on fun o e => v3 _ o (by show @Ne Nat _ _; omega) (v2 _ o (by show @Ne Nat _ _; omega) (v1 _ o (by show @Ne Nat _ _; omega) e))) (s2.on fun o e => v3 _ o (by show @Ne Nat _ _; omega) (v2 _ o (by show @Ne Nat _ _; omega) (v1 _ o (by show @Ne Nat _ _; omega) e))) hy fun g4 e v4 he => ?_)
    obtain ⟨oe, ho, hc⟩ := he
    have z4 : IsZip g4 (n + 4) (n + 2) (n + 3) .ellipsis := v4 _ _ (by show @Ne Nat _ _; omega) (v3 _ _ (by show @Ne Nat _ _; omega) (v2 _ _ (by show @Ne Nat _ _; omega) z1))
    have ez : e ≠ n + 4 := fun q => by subst q; rw [z4] at ho; cases ho; simp at hc
    exact wpAny_setField_rec z4 (by simp) fun g5 _ u5 => fin g5 e (fun c o c1 c2 c3 c4 q => u5.extBut _ _ c1 (v4 _ _ c4 (v3 _ _ c2 (v2 _ _ c3 (v1 _ _ c1 q))))) ⟨oe, u5.extBut _ _ ez ho, hc⟩
end
/-! ### a zip comes to be -/
def RK.itO (k : RK) (a : Addr) : Obj := match k with
  | .lst => { cls := .type "list_iterator", data := .fields #[.ref a, .int 0 0] }
  | .tup => { cls := .type "tuple_iterator", data := .fields #[.ref a, .int 0 0] }
theorem row_iter {prog : Program} {w : World} {A : Around} {E : Value → Shared → Prop} {s : Shared} {k : RK} {a : Addr} {xs : Array Value} {Q : Value → Shared → Prop} (hs : k.Sq s.heap a xs) (hQ : Q (.ref s.heap.objs.size) { s with heap := s.heap.push (k.itO a) }) : wpAny (model prog w) A (pyIter (.ref a)) Q E s := by
  cases k with
  | lst => exact wpAny_pyIter_list hs hQ
  | tup => exact wpAny_pyIter_tuple hs hQ
theorem row_new {h : Heap} {k : RK} {a : Addr} : k.It (h.push (k.itO a)) h.objs.size a 0 := by
  cases k with
  | lst => exact ⟨_, Heap.get?_push_size _ rfl, rfl, rfl⟩
  | tup => exact ⟨_, Heap.get?_push_size _ rfl, rfl, rfl⟩
abbrev zh1 (k1 : RK) (h : Heap) (l1 : Addr) : Heap := h.push (k1.itO l1)
abbrev zh2 (k1 k2 : RK) (h : Heap) (l1 l2 : Addr) : Heap := (zh1 k1 h l1).push (k2.itO l2)
abbrev zh3 (k1 k2 : RK) (h : Heap) (l1 l2 : Addr) : Heap := (zh2 k1 k2 h l1 l2).push { cls := .type "tuple", data := .seq #[.ref h.objs.size, .ref (zh1 k1 h l1).objs.size] }
abbrev zh4 (k1 k2 : RK) (h : Heap) (l1 l2 : Addr) : Heap := (zh3 k1 k2 h l1 l2).push { cls := .type "tuple", data := .seq #[.none, .none] }
abbrev zh5 (k1 k2 : RK) (h : Heap) (l1 l2 : Addr) : Heap := (zh4 k1 k2 h l1 l2).push { cls := .type "zip", data := .fields #[.none, .bool false, .bool false, .ref (zh2 k1 k2 h l1 l2).objs.size, .ref (zh3 k1 k2 h l1 l2).objs.size] }
theorem zip_made (k1 k2 : RK) (l1 l2 : Addr) (xs ys : Array Value) : Meets (Builtin.«zip.__new__» ⟨[.type "zip", .ref l1, .ref l2], []⟩) (fun _ R s => k1.Sq s.heap l1 xs ∧ k2.Sq s.heap l2 ys ∧ R (.ok (.ret (.ref (zh4 k1 k2 s.heap l1 l2).objs.size))) { s with heap := zh5 k1 k2 s.heap l1 l2 }) :=
  .of_wp fun prog w A R s h => by
    obtain ⟨hp, g, d, tk, os⟩ := s
    obtain ⟨q1, q2, h⟩ := h
    have hsub := sub_zip
    have L1 : k1.Sq (Shared.heap ⟨hp, g, d, tk, os⟩) l1 xs := q1
    have L2 : k2.Sq (Shared.heap ⟨hp.push (k1.itO l1), g, d, tk, os⟩) l2 ys := q2.on fun o e => Heap.get?_push_of_some _ e
    wp_walk using row_iter L1, row_iter L2
    exact ⟨_, rfl, h⟩
/-- a zip of two rows, at the turn i -/
def ZipAt (k1 k2 : RK) (n l1 l2 : Nat) (i : Nat) (h : Heap) : Prop :=
  l1 < n ∧ l2 < n ∧ IsZip h (n + 4) (n + 2) (n + 3) .none ∧ IsPair h (n + 2) (.ref n) (.ref (n + 1)) ∧ (∃ a b, IsPair h (n + 3) a b) ∧ k1.It h n l1 i ∧ k2.It h (n + 1) l2 i
theorem call_zipK {prog : Program} {w : World} {A : Around} {E : Value → Shared → Prop} {s : Shared} {k1 k2 : RK} {l1 l2 : Nat} {xs ys : Array Value} {Q : Value → Shared → Prop} (q1 : k1.Sq s.heap l1 xs) (q2 : k2.Sq s.heap l2 ys) (b1 : l1 < s.heap.objs.size) (b2 : l2 < s.heap.objs.size)
    (h : ∀ h', ZipAt k1 k2 s.heap.objs.size l1 l2 0 h' → (∀ c o, s.heap.get? c = some o → h'.get? c = some o) → Q (.ref (s.heap.objs.size + 4)) { s with heap := h' }) : wpAny (model prog w) A (call (.type "zip") [.ref l1, .ref l2]) Q E s := by
  refine callType_new F.called_zip (by decide) (F.typeCall_zip_2 _ _) (F.newCall_zip_2 _ _) (fun obj => F.args_object_init_3 obj _ _) F.entry_zip_new (zip_made k1 k2 l1 l2 xs ys) ⟨q1, q2, ?_⟩
  have z1 : (zh1 k1 s.heap l1).objs.size = s.heap.objs.size + 1 := Heap.size_push ..
  have z2 : (zh2 k1 k2 s.heap l1 l2).objs.size = s.heap.objs.size + 2 := by rw [Heap.size_push, z1]
  have z3 : (zh3 k1 k2 s.heap l1 l2).objs.size = s.heap.objs.size + 3 := by rw [Heap.size_push, z2]
  have z4 : (zh4 k1 k2 s.heap l1 l2).objs.size = s.heap.objs.size + 4 := by rw [Heap.size_push, z3]
  have g5 : (zh5 k1 k2 s.heap l1 l2).get? (zh4 k1 k2 s.heap l1 l2).objs.size = some _ := Heap.get?_push_size _ rfl
  have g4 : (zh5 k1 k2 s.heap l1 l2).get? (zh3 k1 k2 s.heap l1 l2).objs.size = some _ := Heap.get?_push_of_some _ (Heap.get?_push_size _ rfl)
  have g3 : (zh5 k1 k2 s.heap l1 l2).get? (zh2 k1 k2 s.heap l1 l2).objs.size = some _ := Heap.get?_push_of_some _ (Heap.get?_push_of_some _ (Heap.get?_push_size _ rfl))
  have g2 : k2.It (zh5 k1 k2 s.heap l1 l2) (zh1 k1 s.heap l1).objs.size l2 0 := row_new.on fun o e => Heap.get?_push_of_some _ (Heap.get?_push_of_some _ (Heap.get?_push_of_some _ e))
  have g1 : k1.It (zh5 k1 k2 s.heap l1 l2) s.heap.objs.size l1 0 := row_new.on fun o e => Heap.get?_push_of_some _ (Heap.get?_push_of_some _ (Heap.get?_push_of_some _ (Heap.get?_push_of_some _ e)))
  show _ ∧ _
  rw [z2, z3, z4] at g5
  rw [z1, z2] at g3
  rw [z3] at g4
  rw [z1] at g2
  rw [z4]
  exact ⟨⟨_, g5, rfl⟩, h _ ⟨b1, b2, g5, g3, ⟨_, _, g4⟩, g1, g2⟩ fun c o x => Heap.get?_push_of_some _ (Heap.get?_push_of_some _ (Heap.get?_push_of_some _ (Heap.get?_push_of_some _ (Heap.get?_push_of_some _ x))))⟩

/-! ### walking it -/
/-- the row at a, as the layer sees it -/
def RK.sq (k : RK) (K : PySem.W.Frag) (H : Hp) (a : Addr) (xs : List V) : Prop := match k with
  | .lst => SqL K H a xs
  | .tup => SqT K H a xs
def Itz (K : PySem.W.Frag) (k1 k2 : RK) (a b : Addr) : It :=
  ⟨fun i H => ∃ xs ys x y, k1.sq K H a xs ∧ k2.sq K H b ys ∧ xs[i]? = some x ∧ ys[i]? = some y,
   fun i H v H' => ∃ p x y, v = .ref p ∧ H p = none ∧ H' = upd H p (.tup [x, y]) ∧ (∀ xs, k1.sq K H a xs → xs[i]? = some x) ∧ ∀ ys, k2.sq K H b ys → ys[i]? = some y,
   fun i H => ∃ xs ys, k1.sq K H a xs ∧ k2.sq K H b ys ∧ (xs.length ≤ i ∨ ys.length ≤ i)⟩
section
variable {X : Cx} {pins : List (Addr × Obj)} {σ : L2.St} {H : Hp} {s : Shared}
theorem row_of {k : RK} {a : Addr} {xs : List V} (I : Inv X pins σ H s) (q : k.sq X.K H a xs) : ∃ its, Vals xs its ∧ k.Sq s.heap a its.toArray := by
  cases k with
  | lst => obtain ⟨its, rv, p, hz⟩ := I.list q; exact ⟨its, rv, p.isList⟩
  | tup => obtain ⟨its, rv, p, hz⟩ := I.tuple q; exact ⟨its, rv, show s.heap.IsTuple a its.toArray from p⟩
theorem row_inj {k : RK} {a : Addr} {xs ys : List V} (I : Inv X pins σ H s) (q : k.sq X.K H a xs) (q' : k.sq X.K H a ys) : xs = ys := by
  cases k with
  | lst => exact I.list_inj q q'
  | tup => exact I.tuple_inj q q'
end
def fpZ (n : Nat) : List Addr := [n + 4, n + 2, n + 3, n, n + 1]
theorem turn_zip {P : Program} {w : World} {K : PySem.W.Frag} {elts : List Expr} {c : Nat} {pos : Pos} (k1 k2 : RK) (n a b : Nat) : Turn P w K (.Tuple elts c pos) (Itz K k1 k2 a b) (fpZ n) (n + 4) (ZipAt k1 k2 n a b) where
  mem := by simp [fpZ]
  obj := fun i h st e he => by
    obtain ⟨b1, b2, hz, hI, ⟨x, y, hO⟩, h1, h2⟩ := st
    simp only [fpZ, List.mem_cons, List.not_mem_nil, or_false] at he
    rcases he with rfl | rfl | rfl | rfl | rfl
    · exact ⟨_, hz, fun v z => nomatch z⟩
    · exact ⟨_, hI, fun v z => nomatch z⟩
    · exact ⟨_, hO, fun v z => nomatch z⟩
    · exact h1.obj
    · exact h2.obj
  keep := fun i h h' st k => by
    obtain ⟨b1, b2, hz, hI, ⟨x, y, hO⟩, h1, h2⟩ := st
    exact ⟨b1, b2, k _ (by simp [fpZ]) _ hz, k _ (by simp [fpZ]) _ hI, ⟨x, y, k _ (by simp [fpZ]) _ hO⟩, h1.on fun o e => k _ (by simp [fpZ]) o e, h2.on fun o e => k _ (by simp [fpZ]) o e⟩
  item := by
    intro X hP hw hK hc i pins s σ H E I hf st hg
    subst hP hw hK
    obtain ⟨xs, ys, x, y, qx, qy, ex, ey⟩ := hg
    obtain ⟨b1, b2, hz, hI, ⟨ua, ub, hO⟩, h1, h2⟩ := st
    obtain ⟨vx, rx, sx⟩ := row_of I qx
    obtain ⟨vy, ry, sy⟩ := row_of I qy
    obtain ⟨u1, hu1, ru1⟩ := rx.get ex
    obtain ⟨u2, hu2, ru2⟩ := ry.get ey
    refine zip_get b1 b2 hz hI hO h1 h2 sx sy (x := u1) (y := u2) (by simpa using hu1) (by simpa using hu2) fun h' a1 a2 a3 a4 a5 a6 kp => ⟨_, rfl, ?_⟩
    refine wpAny_letOwnedTupleGo_zip (s := { s with heap := h' }) a1 fun h9 c1 c2 => ?_
    have ex2 := c2.extBut
    have lt : ∀ b ∈ fpZ n, b ≠ s.heap.objs.size := fun b hb z => by
      have q : b < s.heap.objs.size := by
        simp only [fpZ, List.mem_cons, List.not_mem_nil, or_false] at hb
        rcases hb with rfl | rfl | rfl | rfl | rfl
        · exact Heap.lt_size hz
        · exact Heap.lt_size hI
        · exact Heap.lt_size hO
        · obtain ⟨o, e, _⟩ := h1.obj; exact Heap.lt_size e
        · obtain ⟨o, e, _⟩ := h2.obj; exact Heap.lt_size e
      rw [z] at q
      exact Nat.lt_irrefl _ q
    have nz : s.heap.objs.size ≠ n + 4 := fun z => lt (n + 4) (by simp [fpZ]) z.symm
    have I1 : Inv X pins σ H { s with heap := h9, toks := s.toks } := Inv.turnedL (ch := fpZ n) I (fun b o hb e => ex2 _ _ (fun z => hb (by simp [fpZ, z])) (kp b o (fun z => hb (by simp [fpZ, z])) (fun z => hb (by simp [fpZ, z])) (fun z => hb (by simp [fpZ, z])) (fun z => hb (by simp [fpZ, z])) e)) hf
    have fr : H s.heap.objs.size = none := I.hok.fresh (Nat.le_refl _)
    have I2 : Inv X pins σ (upd H s.heap.objs.size (.tup [x, y])) { s with heap := h9, toks := s.toks } := Inv.track I1 (I.fpOk (Nat.le_refl _) fr) ⟨by show 2 ≤ sizeLine; decide, [u1, u2], .cons ru1 (.cons ru2 .nil), ⟨_, ex2 _ _ nz a6, rfl, _, rfl⟩⟩
    refine ⟨.ref s.heap.objs.size, upd H s.heap.objs.size (.tup [x, y]), I2, rfl, ⟨_, x, y, rfl, fr, rfl, fun zs hz' => ?_, fun zs hz' => ?_⟩, ⟨b1, b2, c1, ex2 _ _ (by show @Ne Nat _ _; omega) a2, ⟨_, _, ex2 _ _ (by show @Ne Nat _ _; omega) a3⟩, a4.on fun o e => ex2 _ o (by show @Ne Nat _ _; omega) e, a5.on fun o e => ex2 _ o (by show @Ne Nat _ _; omega) e⟩, fun b hb => ?_⟩
    · rw [row_inj I hz' qx]; exact ex
    · rw [row_inj I hz' qy]; exact ey
    · rw [upd_ne (lt b hb)]; exact (hf b hb).1
  done := by
    intro X hP hw hK hc i pins s σ H E I hf st hg
    subst hP hw hK
    obtain ⟨xs, ys, qx, qy, hend⟩ := hg
    obtain ⟨b1, b2, hz, hI, ⟨ua, ub, hO⟩, h1, h2⟩ := st
    obtain ⟨vx, rx, sx⟩ := row_of I qx
    obtain ⟨vy, ry, sy⟩ := row_of I qy
    have lx := rx.length
    have ly := ry.length
    refine zip_over (I.ok.hd hc) b1 b2 hz hI hO h1 h2 sx sy ?_ fun h' kp => ⟨rfl, Inv.turnedL (ch := fpZ n) I (fun b o hb e => kp b o (fun z => hb (by simp [fpZ, z])) (fun z => hb (by simp [fpZ, z])) (fun z => hb (by simp [fpZ, z])) (fun z => hb (by simp [fpZ, z])) e) hf⟩
    rcases hend with h | h
    · exact .inl (by simp; omega)
    · exact .inr (by simp; omega)
  self := fun _ _ _ _ _ st h => wpAny_pyIter_zip st.2.2.1 h
def iZip (K : PySem.W.Frag) (ta : TA) : TI := fun σ H R => ta σ H fun vs H1 => ∃ (k1 k2 : RK) (a b : Addr), vs = [.ref a, .ref b] ∧ (∃ xs, k1.sq K H1 a xs) ∧ (∃ ys, k2.sq K H1 b ys) ∧ R (Itz K k1 k2 a b) H1
theorem pi_zip {X : Cx} {a b : Expr} {ta : TA} {p pos : Pos} {elts : List Expr} {c : Nat} {tpos : Pos} (hg : Gl X "zip") (hm : X.mg "zip" = none) (ha : PA X [a, b] ta) (hs : starEach [a, b] X.env = [(false, eval a X.env), (false, eval b X.env)] := by rfl) (hs2 : starEach [b] X.env = [(false, eval b X.env)] := by rfl) :
    PI X (.Tuple elts c tpos) (.Call (.Name "zip" p) [a, b] [] pos) (iZip X.K ta) := by
  intro pins s σ H R I h
  refine Call_ (ld_blt I hg hm boot_zip (PyProof.Rows.callWith_type1 (thn (ha pos pins s σ H _ I h) fun us s1 ⟨vs, H1, I1, r1, q1⟩ => ?_) (by rw [hs, hs2]) (by rw [hs2]; rfl)))
  obtain ⟨k1, k2, a, b, e, ⟨xs, qx⟩, ⟨ys, qy⟩, q⟩ := q1
  subst e
  cases r1 with
  | cons r rr =>
    cases rr with
    | cons r' rr =>
      cases rr
      cases r
      cases r'
      obtain ⟨vx, rx, sx⟩ := row_of I1 qx
      obtain ⟨vy, ry, sy⟩ := row_of I1 qy
      have la : a < s1.heap.objs.size := by
        cases k1 <;> (obtain ⟨o, e, _⟩ := sx; exact Heap.lt_size e)
      have lb : b < s1.heap.objs.size := by
        cases k2 <;> (obtain ⟨o, e, _⟩ := sy; exact Heap.lt_size e)
      refine call_zipK sx sy la lb fun h' st kp => ?_
      refine wpAny_pyIter_zip (s := { s1 with heap := h' }) st.2.2.1 ?_
      refine ⟨s1.heap.objs.size + 4, fpZ s1.heap.objs.size, _, _, H1, rfl, I1.kept (t' := s1.toks) kp, turn_zip k1 k2 _ a b, st, fun d hd => ?_, q⟩
      have ld : s1.heap.objs.size ≤ d := by
        simp only [fpZ, List.mem_cons, List.not_mem_nil, or_false] at hd
        rcases hd with rfl | rfl | rfl | rfl | rfl <;> (show @LE.le Nat _ _ _; omega)
      exact I1.fpOk ld (I1.hok.fresh ld)
end MS
end
section
set_option linter.all false
set_option Elab.async false
set_option maxRecDepth 100000
set_option maxHeartbeats 4000000
namespace MS
open PySem PySem.Spec PyProof.Rows L2
section
variable {X : Cx}
theorem mt_findD : MtM X "str.find" (fun x xs H Q => ∃ m st a ds d st', Rel X.K m st H ∧ MS.IsD X.K m H a x ∧ IsDs X.K m H ds xs ∧ M.mFind st a ds = some (d, st') ∧ Post X.K m H d st' Q) := by
  intro pins s σ H x xs v us Q I rx rs h
  obtain ⟨m, st, a, ds, d, st', R0, i1, i2, e, q⟩ := h
  unfold M.mFind at e
  split at e
  · rename_i z y
    obtain ⟨c, e1, e2⟩ := mapD e
    cases e2
    have hy := oneOf_eq e1
    subst hy
    have hx := i1.str
    subst hx
    obtain ⟨y', rfl, iy⟩ := i2.one
    have hy' := iy.str
    subst hy'
    obtain ⟨t, rfl⟩ := rx
    cases rs with
    | cons r rr =>
      cases rr
      obtain ⟨u, rfl⟩ := r
      refine SC.find ⟨.int _, H, I.tok _, ⟨_, rfl⟩, ?_⟩
      rw [find_one]
      exact q.here R0 (mkInt _)
  · cases e
theorem strs_of {K : PySem.W.Frag} {m : List Addr} {H : Hp} : ∀ {ds : List M.D} {xs : List V} {us : List Value} {ts : List Str}, M.asStrs ds = some ts → IsDs K m H ds xs → Vals xs us → ∃ l : List (Str × Tok), us = strValues l ∧ l.map (·.1) = ts
  | [], xs, us, ts, e, ix, r => by
    cases e
    rw [ix.nil] at r
    cases r
    exact ⟨[], rfl, rfl⟩
  | .str z :: ds, xs, us, ts, e, ix, r => by
    have e : (M.asStrs ds).map (z :: ·) = some ts := e
    obtain ⟨ts', e1, e2⟩ := mapD e
    subst e2
    obtain ⟨x, xr, rfl, i1, i2⟩ := ix.cons
    have hx := i1.str
    subst hx
    cases r with
    | cons r1 r2 =>
      obtain ⟨t, rfl⟩ := r1
      obtain ⟨l, rfl, rfl⟩ := strs_of e1 i2 r2
      exact ⟨(z, t) :: l, rfl, rfl⟩
  | .non :: ds, xs, us, ts, e, ix, r => by cases e
  | .bl b :: ds, xs, us, ts, e, ix, r => by cases e
  | .int b :: ds, xs, us, ts, e, ix, r => by cases e
  | .tup b :: ds, xs, us, ts, e, ix, r => by cases e
  | .loc b :: ds, xs, us, ts, e, ix, r => by cases e
theorem mt_joinD : MtM X "str.join" (fun x xs H Q => ∃ m st a ds d st', Rel X.K m st H ∧ MS.IsD X.K m H a x ∧ IsDs X.K m H ds xs ∧ M.mJoin st a ds = some (d, st') ∧ Post X.K m H d st' Q) := by
  intro pins s σ H x xs v us Q I rx rs h
  obtain ⟨m, st, a, ds, d, st', R0, i1, i2, e, q⟩ := h
  unfold M.mJoin at e
  split at e
  · rename_i z l
    obtain ⟨es, e1, e⟩ := bindO e
    obtain ⟨ts, e2, e⟩ := bindO e
    split at e
    · rename_i hl
      cases e
      have hx := i1.str
      subst hx
      obtain ⟨y, rfl, iy⟩ := i2.one
      obtain ⟨p, ys, _, rfl, hq, ix⟩ := R0.list e1 iy
      obtain ⟨t, rfl⟩ := rx
      cases rs with
      | cons r rr =>
        cases rr
        cases r
        obtain ⟨its, rv, pl, hz⟩ := I.list hq
        obtain ⟨w, rfl, rfl⟩ := strs_of e2 ix rv
        have hok : JoinOk z (w.map (·.1)) = true := by
          unfold JoinOk
          rw [PySem.StrLaws.joinTotal, Bool.not_eq_true']
          unfold Builtin.Str.tooLong
          rw [decide_eq_false_iff_not]
          have l2 := lim_eq
          omega
        refine SC.join pl.isList rfl hok fun t' k => ⟨.str _, H, I.tok k, ⟨t', rfl⟩, ?_⟩
        have ej : Txt.join z (w.map (·.1)) = Str.join z (w.map (·.1)) := PySem.StrLaws.glued_eq_join _ _
        rw [ej]
        exact q.here R0 (mkStr _)
    · cases e
  · cases e
theorem call_intD : CallR X (.type "int") (rC X.K M.bInt) := by
  intro pins s σ H xs us Q I r h
  obtain ⟨m, st, ds, d, st', R0, ix, e, q⟩ := h
  unfold M.bInt at e
  split at e
  · rename_i z
    split at e
    · rename_i hz
      cases e
      obtain ⟨x, rfl, i⟩ := ix.one
      have hx := i.str
      subst hx
      cases r with
      | cons r rr =>
        cases rr
        obtain ⟨t, rfl⟩ := r
        simp only [Bool.and_eq_true, decide_eq_true_eq] at hz
        obtain ⟨⟨h1, h2⟩, h3⟩ := hz
        have hd : NumText.AllDigits z.cps.toList := fun c hc => by
          have := List.all_eq_true.mp h2 c hc
          unfold M.isFig at this
          simpa using this
        have hne : z.cps.toList ≠ [] := fun e => by rw [e] at h1; cases h1
        exact PySem.W.KIN.call_text (PySem.intText_digits hd hne (by omega)) h3 ⟨.int _, H, I.tok _, ⟨_, rfl⟩, q.here R0 (mkInt _)⟩
    · cases e
  · rename_i i
    cases e
    obtain ⟨x, rfl, j⟩ := ix.one
    exact call_int1 pins s σ H _ us Q I r (.inl ⟨i, by rw [j.int], q.here R0 (mkInt _)⟩)
  · cases e
theorem call_strD : CallR X (.type "str") (rC X.K M.bStr) := by
  intro pins s σ H xs us Q I r h
  obtain ⟨m, st, ds, d, st', R0, ix, e, q⟩ := h
  unfold M.bStr at e
  split at e
  · rename_i i
    split at e
    · rename_i hi
      cases e
      obtain ⟨x, rfl, j⟩ := ix.one
      exact call_str_int pins s σ H _ us Q I r ⟨i, by rw [j.int], hi, q.here R0 (mkStr _)⟩
    · cases e
  · cases e
end
end MS
end
section
set_option linter.all false
set_option Elab.async false
set_option maxRecDepth 100000
set_option maxHeartbeats 4000000
namespace MS
open PySem PySem.Spec PyProof.Rows L2
open M (D Cell Store Sl E S T Src Fn Out R)

/-! ### a value that is assigned straight from a comprehension -/
theorem ps_setComp {X : Cx} {elt tg iter : Expr} {ifs : List Expr} {scope : Scope} {pos pos' cpos : Pos} {N : List Str} {src : List (Option Nat)} {wi : TI} {g : TG} {tt : TT} {te : TE} {i : Nat} {x : Str} (hc : X.calm = true) (S : CompScope X N src scope) (hi : PI X tg iter wi)
    (hg : ∀ C fp s H, PG (cxComp X N scope C fp s H) tg g) (ht : ∀ C fp s H, TestR (cxComp X N scope C fp s H) ifs tt) (he : ∀ C fp s H, PE (cxComp X N scope C fp s H) elt te)
    (hs : ∀ x, foldedSetIterable iter X.env x = pure x) (hN : X.N.Nodup) (hx : X.N[i]? = some x) (hl : Loc X.env.scope x) (hf : X.fn x = true ∨ X.env.scope.names.lookup x = some .local)
    (hsw : swapsWith (.ListComp elt [⟨tg, iter, ifs, 0⟩] scope cpos) (some (.Name x pos')) pos.line X.env = pure true) :
    PS X (.Assign [.Name x pos'] (.ListComp elt [⟨tg, iter, ifs, 0⟩] scope cpos) pos) (tAsg (tComp src wi g tt te) (gName i)) := by
  intro pins s σ H D I h
  rw [exec_Assign_Name_used _ _ _ _ hsw]
  refine wpAny_bind (wpAny_standAt (wpAny_bind ?_))
  show wpAny _ X.A (do let _ ← comprehension (.ListComp elt [⟨tg, iter, ifs, 0⟩] scope cpos) scope X.env _ (newList []) false (eval iter X.env) (some (assign (.Name x pos') X.env))) _ _ s
  refine wpAny_bind (wpAny_mono (wpAny_comprehension_free (use := some (assign (.Name x pos') X.env)) (Q := fun _ s' => SP X pins D .next s') rfl hs (comp_clos S I) S.kind S.loc (thn (hi pins s σ H _ I h) fun v s1 h1 => thn h1 fun itv s2 h2 => ?_)) (fun _ s' hq => wpAny_pure (wpAny_pure hq)) fun _ _ e => e)
  obtain ⟨it, fp, tn, J, H2, e, I2, T, st2, f2, W, w0, turn⟩ := h2
  subst e
  refine comp_block hc I2 T st2 f2 S (fun C => hg C fp s2 H2) (fun C => ht C fp s2 H2) (fun C => he C fp s2 H2) W w0 turn ?_
  intro Dd C s' H' acc fin nD I' fC hm
  obtain ⟨m', hn⟩ := hm
  obtain ⟨c0, c1, c2, c3, c4, c5⟩ := fC
  show wpAny _ X.A (assign (.Name x pos') X.env (.ref Dd)) _ _ _
  refine wpAny_assign_Name (store_ok2 I' hN hx hl (show RelV (.ref Dd) (.ref Dd) from rfl) (fun s'' I'' hsb => ?_) hf)
  obtain ⟨a, sb, ha⟩ := hsb
  have hCa : C ≠ a := by
    rcases ha with z | z
    · rw [z]; exact c1
    · exact fun q => c4 x a z q.symm
  refine ⟨m', hn.sameBut sb hCa, fun h' sb' => ?_⟩
  exact ⟨_, _, I''.turned (t' := s''.toks) (fun b o hb e => (sb'.2 b hb).trans e) c0 c1 c3 c4 c5, fin Dd nD⟩

/-! ### over a list or a tuple -/
def iSeq (K : PySem.W.Frag) (tl : TE) : TI := fun σ H R => tl σ H fun x H1 => (∃ a, x = .ref a ∧ (((∃ xs, SqL K H1 a xs) ∧ R (Itl K a) H1) ∨ ((∃ xs, SqT K H1 a xs) ∧ R (Itt K a) H1))) ∨ ∃ z, x = .str z ∧ z.cps.all (· < 128) = true ∧ R (Its z) H1
theorem pi_seq {X : Cx} {tg l : Expr} {tl : TE} (hl : PE X l tl) : PI X tg l (iSeq X.K tl) := by
  intro pins s σ H R I h
  refine thn (hl pins s σ H _ I h) fun v s1 ⟨x, H1, I1, r1, q1⟩ => ?_
  rcases q1 with ⟨a, e, q⟩ | ⟨z, e, ha, q⟩
  · subst e
    cases r1
    rcases q with ⟨⟨xs, hq⟩, q⟩ | ⟨⟨xs, hq⟩, q⟩
    · obtain ⟨its, rv, p, hz⟩ := I1.list hq
      refine wpAny_pyIter_list p.isList ?_
      refine ⟨s1.heap.objs.size, [s1.heap.objs.size], _, _, H1, rfl, I1.kept (t' := s1.toks) fun b o e => Heap.get?_push_of_some _ e, turn_list a _, ⟨_, Heap.get?_push_size _ rfl, rfl, rfl⟩, fun b hb => ?_, q⟩
      have e : b = s1.heap.objs.size := by simpa using hb
      subst e
      exact I1.fpOk (Nat.le_refl _) (I1.hok.fresh (Nat.le_refl _))
    · obtain ⟨its, rv, p, hz⟩ := I1.tuple hq
      refine wpAny_pyIter_tuple (show s1.heap.IsTuple a its.toArray from p) ?_
      refine ⟨s1.heap.objs.size, [s1.heap.objs.size], _, _, H1, rfl, I1.kept (t' := s1.toks) fun b o e => Heap.get?_push_of_some _ e, turn_tuple a _, ⟨_, Heap.get?_push_size _ rfl, rfl, rfl⟩, fun b hb => ?_, q⟩
      have e : b = s1.heap.objs.size := by simpa using hb
      subst e
      exact I1.fpOk (Nat.le_refl _) (I1.hok.fresh (Nat.le_refl _))
  · subst e
    obtain ⟨t, rfl⟩ := r1
    refine wpAny_pyIter_ascii ha ?_
    refine ⟨s1.heap.objs.size, [s1.heap.objs.size], _, _, H1, rfl, I1.kept (t' := s1.toks) fun b o e => Heap.get?_push_of_some _ e, turn_text z t _, ⟨_, Heap.get?_push_size _ rfl, rfl, rfl⟩, fun b hb => ?_, q⟩
    have e : b = s1.heap.objs.size := by simpa using hb
    subst e
    exact I1.fpOk (Nat.le_refl _) (I1.hok.fresh (Nat.le_refl _))

/-! ### the text and its core -/
structure Ctx where
  N : List Str
  sc : Scope
  fns : List Str
  glo : List (Str × D)
def bName : M.B → String
  | .len => "len"
  | .min => "min"
  | .max => "max"
  | .tuple => "tuple"
  | .list => "list"
  | .all => "all"
  | .sorted => "sorted"
  | .int => "int"
  | .str => "str"
def relab (scope sc : Scope) : Scope := { scope with names := scope.names.map fun (n, k) => if (k == NameKind.free && sc.kind == .function && sc.names.lookup n == some .cell) then (n, NameKind.cell) else (n, k) }
/-- every name of a target is a plain local one -/
def tlOk (N : List Str) (sc : Scope) (t : T) : Bool := t.slots.all fun i => match N[i]? with
  | some x => sc.names.lookup x == some .local
  | none => false
theorem tlOk_of {N : List Str} {sc : Scope} {t : T} (h : tlOk N sc t = true) : ∀ i ∈ t.slots, ∀ x, N[i]? = some x → sc.names.lookup x = some .local := by
  intro i hi x hx
  unfold tlOk at h
  have := List.all_eq_true.mp h i hi
  rw [hx] at this
  simpa using this
def Star (p : Expr) : Prop := ∀ es env, starEach (p :: es) env = (false, eval p env) :: starEach es env
inductive CkTys (c : Ctx) : List M.Ty → List Expr → Prop
  | nil : CkTys c [] []
  | cons {t ts ps pos} (ht : t ≠ .non) (hg : c.sc.names.lookup (Str.ofString t.name) = some .globalImplicit) (h : CkTys c ts ps) : CkTys c (t :: ts) (.Name (Str.ofString t.name) pos :: ps)
inductive CkTs (c : Ctx) : List Nat → List Expr → Prop
  | nil : CkTs c [] []
  | cons {i x pos is es} (hN : c.N[i]? = some x) (hl : c.sc.names.lookup x = some .local ∨ c.sc.names.lookup x = some .cell) (h : CkTs c is es) : CkTs c (i :: is) (.Name x pos :: es)
inductive CkT (c : Ctx) : T → Expr → Prop
  | tup {is es k pos} (h : CkTs c is es) : CkT c (.tup is) (.Tuple es k pos)
  | var {i x pos} (hN : c.N[i]? = some x) (hl : c.sc.names.lookup x = some .local ∨ c.sc.names.lookup x = some .cell) : CkT c (.var i) (.Name x pos)
mutual
inductive CkE : Ctx → E → Expr → Prop
  | var {c i x pos} (hN : c.N[i]? = some x) (hv : Vis c.sc x) (hd : (x == ("__debug__" : Str)) = false) (hcd : (x == ("__classdict__" : Str)) = false) : CkE c (.var i) (.Name x pos)
  | int {c i j pos} : CkE c (.lit (.int i)) (.Constant (.int i) j pos)
  | bl {c i j pos} : CkE c (.lit (.bl i)) (.Constant (.bool i) j pos)
  | non {c j pos} : CkE c (.lit .non) (.Constant .none j pos)
  | str {c i j pos} : CkE c (.lit (.str i)) (.Constant (.str i) j pos)
  | glo {c x d pos} (hg : c.sc.names.lookup x = some .globalImplicit) (hm : (x, d) ∈ c.glo) (hd : (x == ("__debug__" : Str)) = false) : CkE c (.glo x d) (.Name x pos)
  | bin {c op a b pa pb pos} (ha : CkE c a pa) (hb : CkE c b pb) : CkE c (.bin op a b) (.BinOp pa op pb pos)
  | neg {c a pa pos} (ha : CkE c a pa) : CkE c (.neg a) (.UnaryOp .USub pa pos)
  | not {c a pa pos} (ha : CkE c a pa) : CkE c (.not a) (.UnaryOp .Not pa pos)
  | cmp {c op a b pa pb pos} (ha : CkE c a pa) (hb : CkE c b pb) (hm : behindInMarks op pb = false) : CkE c (.cmp op a b) (.Compare pa [op] [pb] pos)
  | cmp2 {c op op' a b d pa pb pd pos} (ha : CkE c a pa) (hb : CkE c b pb) (hd : CkE c d pd) (hm : lastMarks [op, op'] [pb, pd] = false) : CkE c (.cmp2 op op' a b d) (.Compare pa [op, op'] [pb, pd] pos)
  | and2 {c a b pa pb pos} (ha : CkE c a pa) (hb : CkE c b pb) : CkE c (.and a b) (.BoolOp .And [pa, pb] pos)
  | andN {c a b pa pb pd r pos} (ha : CkE c a pa) (hb : CkE c b (.BoolOp .And (pb :: pd :: r) pos)) : CkE c (.and a b) (.BoolOp .And (pa :: pb :: pd :: r) pos)
  | or2 {c a b pa pb pos} (ha : CkE c a pa) (hb : CkE c b pb) : CkE c (.or a b) (.BoolOp .Or [pa, pb] pos)
  | orN {c a b pa pb pd r pos} (ha : CkE c a pa) (hb : CkE c b (.BoolOp .Or (pb :: pd :: r) pos)) : CkE c (.or a b) (.BoolOp .Or (pa :: pb :: pd :: r) pos)
  | ite {c q a b pq pa pb pos} (hq : CkE c q pq) (ha : CkE c a pa) (hb : CkE c b pb) : CkE c (.ite q a b) (.IfExp pq pa pb pos)
  | tup {c es ps k pos} (h : CkEs c es ps) : CkE c (.tup es) (.Tuple ps k pos)
  | lst {c es ps pos} (h : CkEs c es ps) : CkE c (.lst es) (.List ps pos)
  | idx {c a b pa pb pos} (ha : CkE c a pa) (hb : CkE c b pb) (hs : PlainIx pb) : CkE c (.idx a b) (.Subscript pa pb pos)
  | call {c f x es p ps p0 pos} (hg : c.sc.names.lookup x = some .globalImplicit) (hf : c.fns[f]? = some x) (hd : (x == ("__debug__" : Str)) = false) (h : CkEs c es (p :: ps)) : CkE c (.call f es) (.Call (.Name x p0) (p :: ps) [] pos)
  | bcall {c b es p ps p0 pos} (hg : c.sc.names.lookup (Str.ofString (bName b)) = some .globalImplicit) (h : CkEs c es (p :: ps)) : CkE c (.bcall b es) (.Call (.Name (Str.ofString (bName b)) p0) (p :: ps) [] pos)
  | isi1 {c t a pa p0 p1 pos} (hg : c.sc.names.lookup ("isinstance" : Str) = some .globalImplicit) (ht : t ≠ .non) (hgt : c.sc.names.lookup (Str.ofString t.name) = some .globalImplicit) (ha : CkE c a pa) :
      CkE c (.isi a [t] false) (.Call (.Name "isinstance" p0) [pa, .Name (Str.ofString t.name) p1] [] pos)
  | isiN {c ts a pa p0 ps k p1 pos} (hl : ts.length ≤ 1000) (hg : c.sc.names.lookup ("isinstance" : Str) = some .globalImplicit) (ht : CkTys c ts ps) (ha : CkE c a pa) : CkE c (.isi a ts true) (.Call (.Name "isinstance" p0) [pa, .Tuple ps k p1] [] pos)
  | append {c a e x xp pe apos cpos} (ha : CkE c a (.Name x xp)) (he : CkE c e pe) (hl : (apos.endLine == cpos.line) = true) : CkE c (.meth a .append [e]) (.Call (.Attribute (.Name x xp) "append" apos) [pe] [] cpos)
  | find {c a e pa pe apos cpos} (ha : CkE c a pa) (he : CkE c e pe) (hb : ∀ env, attributeBase pa "find" env (eval pa env) = eval pa env) (hl : (apos.endLine == cpos.line) = true) : CkE c (.meth a .find [e]) (.Call (.Attribute pa "find" apos) [pe] [] cpos)
  | join {c a e pa pe apos cpos} (ha : CkE c a pa) (he : CkE c e pe) (hb : ∀ env, attributeBase pa "join" env (eval pa env) = eval pa env) (hl : (apos.endLine == cpos.line) = true) : CkE c (.meth a .join [e]) (.Call (.Attribute pa "join" apos) [pe] [] cpos)
  | comp {c t it elt sr tg iter pelt scope pos N} (hk : scope.kind = .function) (hcell : ∀ y ∈ scope.names, y.2 ≠ .cell) (hfree : ∀ y ∈ scope.names, y.2 = .free → c.sc.names.lookup y.1 = some .cell ∨ c.sc.names.lookup y.1 = some .free)
      (hloc : ∀ y ∈ scope.names, y.2 = .local → scope.names.lookup y.1 = some .local) (hlen : sr.length = N.length) (hsrc : ∀ (j i : Nat), sr[j]? = some (some i) → ∃ x, N[j]? = some x ∧ c.N[i]? = some x ∧ scope.names.lookup x = some .free)
      (hnd : N.Nodup) (hs : ∀ env x, foldedSetIterable iter env x = pure x) (hi : CkI c tg it iter) (ht : CkT ⟨N, relab scope c.sc, c.fns, c.glo⟩ t tg) (htl : tlOk N (relab scope c.sc) t = true) (he : CkE ⟨N, relab scope c.sc, c.fns, c.glo⟩ elt pelt) :
      CkE c (.comp t it none elt sr) (.ListComp pelt [⟨tg, iter, [], 0⟩] scope pos)
  | compIf {c t it q elt sr tg iter pq pelt scope pos N} (hk : scope.kind = .function) (hcell : ∀ y ∈ scope.names, y.2 ≠ .cell) (hfree : ∀ y ∈ scope.names, y.2 = .free → c.sc.names.lookup y.1 = some .cell ∨ c.sc.names.lookup y.1 = some .free)
      (hloc : ∀ y ∈ scope.names, y.2 = .local → scope.names.lookup y.1 = some .local) (hlen : sr.length = N.length) (hsrc : ∀ (j i : Nat), sr[j]? = some (some i) → ∃ x, N[j]? = some x ∧ c.N[i]? = some x ∧ scope.names.lookup x = some .free)
      (hnd : N.Nodup) (hs : ∀ env x, foldedSetIterable iter env x = pure x) (hi : CkI c tg it iter) (ht : CkT ⟨N, relab scope c.sc, c.fns, c.glo⟩ t tg) (htl : tlOk N (relab scope c.sc) t = true)
      (hq : CkE ⟨N, relab scope c.sc, c.fns, c.glo⟩ q pq) (he : CkE ⟨N, relab scope c.sc, c.fns, c.glo⟩ elt pelt) : CkE c (.comp t it (some q) elt sr) (.ListComp pelt [⟨tg, iter, [pq], 0⟩] scope pos)
  | sli {c a lo hi pa pl ph p2 pos} (ha : CkE c a pa) (hl : CkO c lo pl) (hh : CkO c hi ph) : CkE c (.sli a lo hi) (.Subscript pa (.Slice pl ph none p2) pos)
inductive CkO : Ctx → Option E → Option Expr → Prop
  | none {c} : CkO c none none
  | some {c e p} (h : CkE c e p) : CkO c (some e) (some p)
inductive CkEs : Ctx → List E → List Expr → Prop
  | nil {c} : CkEs c [] []
  | cons {c e es p ps} (h : CkE c e p) (t : CkEs c es ps) : CkEs c (e :: es) (p :: ps)
inductive CkI : Ctx → Expr → E → Expr → Prop
  | rng1 {c tg a pa p0 pos} (hg : c.sc.names.lookup ("range" : Str) = some .globalImplicit) (ha : CkE c a pa) : CkI c tg (.rng1 a) (.Call (.Name "range" p0) [pa] [] pos)
  | rng2 {c tg a b pa pb p0 pos} (hg : c.sc.names.lookup ("range" : Str) = some .globalImplicit) (ha : CkE c a pa) (hb : CkE c b pb) : CkI c tg (.rng2 a b) (.Call (.Name "range" p0) [pa, pb] [] pos)
  | zip {c es k tp a b pa pb p0 pos} (hg : c.sc.names.lookup ("zip" : Str) = some .globalImplicit) (ha : CkE c a pa) (hb : CkE c b pb) : CkI c (.Tuple es k tp) (.zip a b) (.Call (.Name "zip" p0) [pa, pb] [] pos)
  | seq {c tg e p} (h : CkE c e p) : CkI c tg e p
end
mutual
inductive CkS : Ctx → S → Stmt → Prop
  | set {c i e x p pos pos'} (hN : c.N[i]? = some x) (hl : c.sc.names.lookup x = some .local ∨ c.sc.names.lookup x = some .cell) (h : CkE c e p) (hs : ∀ env, swapsWith p (some (.Name x pos')) pos.line env = pure false) : CkS c (.set (.var i) e) (.Assign [.Name x pos'] p pos)
  | setC {c i e x p pos pos'} (hN : c.N[i]? = some x) (hl : c.sc.names.lookup x = some .local ∨ c.sc.names.lookup x = some .cell) (h : CkE c e p) (hc : ∃ elt gs sc q, p = .ListComp elt gs sc q) (hs : ∀ env : Env, env.scope = c.sc → (swapsWith p (some (.Name x pos')) pos.line env = pure false ∨ swapsWith p (some (.Name x pos')) pos.line env = pure true)) : CkS c (.set (.var i) e) (.Assign [.Name x pos'] p pos)
  | setIx {c a i e pa pi pe tpos pos} (ha : CkE c a pa) (hi : CkE c i pi) (he : CkE c e pe)
      (hs : ∀ env, swapsWithSole [.Subscript pa pi tpos] pe pos.line env = pure false) (hw : ∀ env, swappedStores [.Subscript pa pi tpos] pe env = pure none) (h1 : ∀ env, (assignEach [.Subscript pa pi tpos] env).map (·.2) = [assign (.Subscript pa pi tpos) env])
      (hA : ∀ env v, assign (.Subscript pa pi tpos) env v = (do
        let ov ← holding [v] (eval pa env)
        let iv ← holding [v, ov] (eval pi env)
        standAt tpos
        holding [v, ov, iv] (setItem ov iv v)
        release [v, ov, iv] [])) : CkS c (.setIx a i e) (.Assign [.Subscript pa pi tpos] pe pos)
  | setT {c is e es k p pos tpos} (ht : CkTs c is es) (h : CkE c e p) (hs : ∀ env, swapsWithSole [.Tuple es k tpos] p pos.line env = pure false) (hw : ∀ env, swappedStores [.Tuple es k tpos] p env = pure none) (h1 : ∀ env, (assignEach [.Tuple es k tpos] env).map (·.2) = [assign (.Tuple es k tpos) env]) :
      CkS c (.set (.tup is) e) (.Assign [.Tuple es k tpos] p pos)
  | whil {c q body pq pb pos} (hq : CkE c q pq) (hb : CkSs c body pb) : CkS c (.whil q body) (.While pq pb [] pos)
  | aug {c i op e x p pos pos'} (hN : c.N[i]? = some x) (hl : c.sc.names.lookup x = some .local ∨ c.sc.names.lookup x = some .cell) (h : CkE c e p) : CkS c (.aug i op e) (.AugAssign (.Name x pos') op p pos)
  | expr {c e p pos} (h : CkE c e p) (hs : ∀ env, swapsWith p none pos.line env = pure false) : CkS c (.expr e) (.Expr p pos)
  | ret {c e p pos} (h : CkE c e p) : CkS c (.ret e) (.Return (some p) pos)
  | retN {c pos} : CkS c .retN (.Return none pos)
  | ite {c q a b pq pa pb pos} (hq : CkE c q pq) (ha : CkSs c a pa) (hb : CkSs c b pb) : CkS c (.ite q a b) (.If pq pa pb pos)
  | forr {c t it body tg iter pb pos} (ht : CkT c t tg) (hi : CkI c tg it iter) (hs : ∀ env x, foldedSetIterable iter env x = pure x) (hb : CkSs c body pb) : CkS c (.forr t it body) (.For tg iter pb [] pos)
  | brk {c pos} : CkS c .brk (.Break pos)
  | cnt {c pos} : CkS c .cnt (.Continue pos)
  | pass {c pos} : CkS c .pass (.Pass pos)
inductive CkSs : Ctx → List S → List Stmt → Prop
  | nil {c} : CkSs c [] []
  | cons {c s ss p ps} (h : CkS c s p) (t : CkSs c ss ps) : CkSs c (s :: ss) (p :: ps)
  | doc {c ss x j pos pos' ps} (t : CkSs c ss ps) : CkSs c ss (.Expr (.Constant (.str x) j pos) pos' :: ps)
end
theorem CkE.star {c : Ctx} {e : E} {p : Expr} (h : CkE c e p) : Star p := by
  cases h <;> exact fun _ _ => rfl

/-! ### what a body's context must have -/
def spN (K : PySem.W.Frag) (fns : List Fn) (n f : Nat) : Sp := fun vs H Q _ => ∃ m st ds d st', Rel K m st H ∧ IsDs K m H ds vs ∧ (M.run fns n).call f ds st = some (d, st') ∧ Post K m H d st' Q
def FTab (P : Program) (w : World) (K : PySem.W.Frag) (mg : Str → Option Value) (base : Heap) (fns : List Fn) (names : List Str) (n : Nat) : Prop := ∀ (f : Nat) (x : Str), names[f]? = some x → ∃ (fa : Addr) (fd : FuncData) (ps : List Str),
  mg x = some (.ref fa) ∧ FnOk P w K mg base CX0 n fa fd ps (spN K fns n f) ∧ PySem.W.keepIn K (.ref fa) = true ∧ Binds K fd ps []
structure Mo (K : PySem.W.Frag) (mg : Str → Option Value) (glo : List (Str × D)) : Prop where
  glo : ∀ x d, (x, d) ∈ glo → ∃ u v, mg x = some u ∧ RelV v u ∧ ∀ m H, IsD K m H d v
  len : mg "len" = none
  min : mg "min" = none
  max : mg "max" = none
  tuple : mg "tuple" = none
  list : mg "list" = none
  all : mg "all" = none
  sorted : mg "sorted" = none
  isinstance : mg "isinstance" = none
  range : mg "range" = none
  int : mg "int" = none
  bool : mg "bool" = none
  str : mg "str" = none
  zip : mg "zip" = none
  any : mg "any" = none
  enumerate : mg "enumerate" = none
  reversed : mg "reversed" = none
  sum : mg "sum" = none
  set : mg "set" = none
  dict : mg "dict" = none
structure Good (fns : List Fn) (n : Nat) (c : Ctx) (X : Cx) : Prop where
  room : Room n X.A
  calm : X.calm = true
  N : X.N = c.N
  sc : X.env.scope = c.sc
  nd : c.N.Nodup
  kind : c.sc.kind = .function
  tab : ∀ j, j < n → FTab X.prog X.w X.K X.mg X.base fns c.fns j
  mo : Mo X.K X.mg c.glo
  xe : X.xe = fun _ _ => False
end MS
end
section
set_option linter.all false
set_option Elab.async false
set_option maxRecDepth 100000
set_option maxHeartbeats 4000000
namespace MS
open PySem PySem.Spec PyProof.Rows L2
open M (D Cell Store Sl E S T Src Fn Out R)

theorem noStars {c : Ctx} : ∀ {es : List E} {ps : List Expr}, CkEs c es ps → ∀ (pos : Pos) (env : Env), (backTo pos (starEach ps env)).any (·.1) = false
  | _, _, .nil, _, _ => rfl
  | _, _, .cons h t, pos, env => by
    rw [h.star]
    show (false || (backTo pos (starEach _ env)).any (·.1)) = false
    rw [noStars t pos env]
    rfl
theorem Good.gl {fns : List Fn} {n : Nat} {c : Ctx} {X : Cx} (G : Good fns n c X) {x : Str} (h : c.sc.names.lookup x = some .globalImplicit) : Gl X x := by
  show X.env.scope.names.lookup x = _
  rw [G.sc]; exact h
theorem Good.low {fns : List Fn} {n : Nat} {c : Ctx} {X : Cx} (G : Good fns (n + 1) c X) : Good fns n c X :=
  ⟨G.room.mono (Nat.le_succ n), G.calm, G.N, G.sc, G.nd, G.kind, fun j h => G.tab j (Nat.lt_succ_of_lt h), G.mo, G.xe⟩
theorem relabel_eq {scope sc : Scope} {env : Env} (h : env.scope = sc) : relabel scope env = relab scope sc := by
  unfold relabel relab Env.kindOf
  rw [h]
theorem Good.inner {fns : List Fn} {n : Nat} {c : Ctx} {X : Cx} (G : Good fns n c X) {N : List Str} {scope : Scope} {C : Addr} {fp : List Addr} {s : Shared} {H : Hp} (hk : scope.kind = .function) (hnd : N.Nodup) : Good fns n ⟨N, relab scope c.sc, c.fns, c.glo⟩ (cxComp X N scope C fp s H) :=
  ⟨G.room, G.calm, rfl, relabel_eq G.sc, hnd, hk, G.tab, G.mo, rfl⟩

/-! ### what is walked -/
/-- the row d is the one at a -/
def IsRow (K : PySem.W.Frag) (m : List Addr) (H : Hp) (k : RK) (a : Addr) : D → Prop
  | .tup ds => k = .tup ∧ ∃ xs, SqT K H a xs ∧ IsDs K m H ds xs
  | .loc l => k = .lst ∧ m[l]? = some a
  | _ => False
theorem IsRow.mono {K : PySem.W.Frag} {m m' : List Addr} {H H' : Hp} {k : RK} {a : Addr} {d : D} (h : IsRow K m H k a d) (b : Sub m m') (t : Tr H H') : IsRow K m' H' k a d := by
  cases d with
  | tup ds => obtain ⟨e, xs, q, r⟩ := h; exact ⟨e, xs, t.sqT q, isDs_mono b t ds xs r⟩
  | loc l => exact ⟨h.1, b l a h.2⟩
  | _ => exact h.elim
/-- what stands in the row -/
theorem IsRow.sq {K : PySem.W.Frag} {m : List Addr} {st : Store} {H : Hp} {k : RK} {a : Addr} {d : D} {ds : List D} (h : IsRow K m H k a d) (R0 : Rel K m st H) (e : M.rowAt st d = some ds) : ∃ xs, k.sq K H a xs ∧ IsDs K m H ds xs := by
  cases d with
  | tup es =>
    cases e
    obtain ⟨rfl, xs, q, r⟩ := h
    exact ⟨xs, q, r⟩
  | loc l =>
    obtain ⟨rfl, ha⟩ := h
    obtain ⟨a', xs, ha', z, q, r⟩ := R0.list e (mkLoc ha)
    cases z
    exact ⟨xs, q, r⟩
  | _ => exact h.elim
theorem isRow_of {K : PySem.W.Frag} {m : List Addr} {st : Store} {H : Hp} {d : D} {v : V} {ds : List D} (iv : MS.IsD K m H d v) (R0 : Rel K m st H) (e : M.rowAt st d = some ds) : ∃ k a, v = .ref a ∧ IsRow K m H k a d ∧ ∃ xs, k.sq K H a xs := by
  cases d with
  | tup es =>
    obtain ⟨a, xs, rfl, q, r⟩ := iv.tup
    exact ⟨.tup, a, rfl, ⟨rfl, xs, q, r⟩, xs, q⟩
  | loc l =>
    obtain ⟨a, xs, ha, rfl, q, r⟩ := R0.list e iv
    exact ⟨.lst, a, rfl, ⟨rfl, ha⟩, xs, q⟩
  | _ => cases e
def IsSrc (K : PySem.W.Frag) (m : List Addr) (H : Hp) : Src → It → Prop
  | .rng lo n, J => J = Itr lo n
  | .tup ds, J => ∃ a xs, J = Itt K a ∧ SqT K H a xs ∧ IsDs K m H ds xs
  | .lst l, J => ∃ a, m[l]? = some a ∧ J = Itl K a
  | .str z, J => J = Its z
  | .zip x y, J => ∃ (k1 k2 : RK) (a b : Addr), J = Itz K k1 k2 a b ∧ IsRow K m H k1 a x ∧ IsRow K m H k2 b y
theorem IsSrc.mono {K : PySem.W.Frag} {m m' : List Addr} {H H' : Hp} {s : Src} {J : It} (h : IsSrc K m H s J) (b : Sub m m') (t : Tr H H') : IsSrc K m' H' s J := by
  cases s with
  | rng lo n => exact h
  | tup ds => obtain ⟨a, xs, e, q, r⟩ := h; exact ⟨a, xs, e, t.sqT q, isDs_mono b t ds xs r⟩
  | lst l => obtain ⟨a, e, q⟩ := h; exact ⟨a, b l a e, q⟩
  | str z => exact h
  | zip x y => obtain ⟨k1, k2, a, a', e, h1, h2⟩ := h; exact ⟨k1, k2, a, a', e, h1.mono b t, h2.mono b t⟩
theorem IsSrc.done {K : PySem.W.Frag} {m : List Addr} {st : Store} {H : Hp} {s : Src} {J : It} {i : Nat} (h : IsSrc K m H s J) (R0 : Rel K m st H) (e : s.at st i = some none) : J.stop i H := by
  cases s with
  | rng lo n =>
    cases h
    simp only [Src.at] at e
    split at e
    · cases e
    · rename_i q
      exact Nat.not_lt.mp q
  | tup ds =>
    obtain ⟨a, xs, rfl, q, r⟩ := h
    simp only [Src.at, Option.some.injEq] at e
    exact ⟨xs, q, by rw [← r.length]; exact List.getElem?_eq_none_iff.mp e⟩
  | lst l =>
    obtain ⟨a, ha, rfl⟩ := h
    simp only [Src.at] at e
    obtain ⟨ds, e1, e2⟩ := mapD e
    obtain ⟨a', xs, ha', z, q, r⟩ := R0.list e1 (mkLoc ha)
    cases z
    exact ⟨xs, q, by rw [← r.length]; exact List.getElem?_eq_none_iff.mp e2⟩
  | str z =>
    cases h
    simp only [Src.at, Option.some.injEq] at e
    have := List.getElem?_eq_none_iff.mp e
    rw [List.length_map] at this
    exact this
  | zip x y =>
    obtain ⟨k1, k2, a, b, rfl, h1, h2⟩ := h
    simp only [Src.at] at e
    obtain ⟨ds, e1, e⟩ := bindO e
    obtain ⟨es, e2, e3⟩ := mapD e
    obtain ⟨xs, q1, r1⟩ := h1.sq R0 e1
    obtain ⟨ys, q2, r2⟩ := h2.sq R0 e2
    refine ⟨xs, ys, q1, q2, ?_⟩
    unfold M.pairAt at e3
    rw [← r1.length, ← r2.length]
    cases z1 : ds[i]? with
    | none => exact .inl (List.getElem?_eq_none_iff.mp z1)
    | some d1 =>
      cases z2 : es[i]? with
      | none => exact .inr (List.getElem?_eq_none_iff.mp z2)
      | some d2 => rw [z1, z2] at e3; cases e3
theorem IsSrc.next {K : PySem.W.Frag} {m : List Addr} {st : Store} {H : Hp} {s : Src} {J : It} {i : Nat} {d : D} (h : IsSrc K m H s J) (R0 : Rel K m st H) (e : s.at st i = some (some d)) : J.go i H ∧ ∀ x H', J.yld i H x H' → Same H H' ∧ MS.IsD K m H' d x := by
  cases s with
  | rng lo n =>
    cases h
    simp only [Src.at, Option.some.injEq] at e
    split at e
    · rename_i q
      cases e
      refine ⟨q, ?_⟩
      rintro x H' ⟨rfl, rfl⟩
      exact ⟨fun _ _ z => z, mkInt _⟩
    · cases e
  | tup ds =>
    obtain ⟨a, xs, rfl, q, r⟩ := h
    simp only [Src.at, Option.some.injEq] at e
    obtain ⟨x, ex, ix⟩ := r.get e
    refine ⟨⟨xs, x, q, ex⟩, ?_⟩
    rintro y H' ⟨rfl, z⟩
    have := z xs q
    rw [ex] at this
    cases this
    exact ⟨fun _ _ z => z, ix⟩
  | lst l =>
    obtain ⟨a, ha, rfl⟩ := h
    simp only [Src.at] at e
    obtain ⟨ds, e1, e2⟩ := mapD e
    obtain ⟨a', xs, ha', z, q, r⟩ := R0.list e1 (mkLoc ha)
    cases z
    obtain ⟨x, ex, ix⟩ := r.get e2
    refine ⟨⟨xs, x, q, ex⟩, ?_⟩
    rintro y H' ⟨rfl, z⟩
    have := z xs q
    rw [ex] at this
    cases this
    exact ⟨fun _ _ z => z, ix⟩
  | str z =>
    cases h
    simp only [Src.at, Option.some.injEq] at e
    rw [List.getElem?_map] at e
    cases hc : z.cps.toList[i]? with
    | none => rw [hc] at e; cases e
    | some c =>
      rw [hc] at e
      cases e
      refine ⟨(List.getElem?_eq_some_iff.mp hc).1, ?_⟩
      rintro x H' ⟨rfl, c', hc', rfl⟩
      rw [hc] at hc'
      cases hc'
      exact ⟨fun _ _ w => w, mkStr _⟩
  | zip u v =>
    obtain ⟨k1, k2, a, b, rfl, h1, h2⟩ := h
    simp only [Src.at] at e
    obtain ⟨ds, e1, e⟩ := bindO e
    obtain ⟨es, e2, e3⟩ := mapD e
    obtain ⟨xs, q1, r1⟩ := h1.sq R0 e1
    obtain ⟨ys, q2, r2⟩ := h2.sq R0 e2
    unfold M.pairAt at e3
    cases z1 : ds[i]? with
    | none => rw [z1] at e3; cases e3
    | some d1 =>
      cases z2 : es[i]? with
      | none => rw [z1, z2] at e3; cases e3
      | some d2 =>
        rw [z1, z2] at e3
        cases e3
        obtain ⟨x, ex, ix⟩ := r1.get z1
        obtain ⟨y, ey, iy⟩ := r2.get z2
        refine ⟨⟨xs, ys, x, y, q1, q2, ex, ey⟩, ?_⟩
        rintro w H' ⟨p, x', y', rfl, hp, rfl, f1, f2⟩
        have g1 := f1 xs q1
        rw [ex] at g1
        cases g1
        have g2 := f2 ys q2
        rw [ey] at g2
        cases g2
        have sm := same_new (o := .tup [x, y]) hp
        exact ⟨sm, mkTup (SqT.of upd_same) (isDs_mono (Sub.refl _) (Tr.of_same sm) _ _ (mkCons ix (mkCons iy mkNil)))⟩
def tI (K : PySem.W.Frag) (f : Sl → Store → Option (Src × Store)) : TI := fun σ H R => ∃ m st τ s st', Rel K m st H ∧ SlotOk K m H τ σ ∧ f τ st = some (s, st') ∧ ∀ m' H' J, Sub m m' → Tr H H' → Rel K m' st' H' → IsSrc K m' H' s J → R J H'
theorem _root_.L2.PI.imp {X : Cx} {tg e : Expr} {t t' : TI} (h : PI X tg e t) (f : ∀ σ H R, t' σ H R → t σ H R) : PI X tg e t' := fun pins s σ H Q I q => h pins s σ H Q I (f σ H Q q)

/-! ### statements -/
def PostO (K : PySem.W.Frag) (m : List Addr) (H : Hp) (o : Out) (st' : Store) (Dn : Ends) : Prop := ∀ m' H', Sub m m' → Tr H H' → Rel K m' st' H' → match o with
  | .nx τ => ∀ σ', SlotOk K m' H' τ σ' → Dn.nx σ' H'
  | .rt d => ∀ v, IsD K m' H' d v → Dn.rt v H'
  | .bk τ => ∀ σ', SlotOk K m' H' τ σ' → Dn.bk σ' H'
  | .ct τ => ∀ σ', SlotOk K m' H' τ σ' → Dn.ct σ' H'
theorem PostO.mono {K : PySem.W.Frag} {m m1 : List Addr} {H H1 : Hp} {o : Out} {st' : Store} {Dn : Ends} (p : PostO K m H o st' Dn) (s : Sub m m1) (t : Tr H H1) : PostO K m1 H1 o st' Dn := fun m' H' s' t' r => p m' H' (s.trans s') (t.trans t') r
def tS (K : PySem.W.Frag) (f : Sl → Store → Option (Out × Store)) : TS := fun Dn σ H => ∃ m st τ o st', Rel K m st H ∧ SlotOk K m H τ σ ∧ f τ st = some (o, st') ∧ PostO K m H o st' Dn

structure AllOk (fns : List Fn) (n : Nat) : Prop where
  e : ∀ c X, Good fns n c X → ∀ e p, CkE c e p → PE X p (tD X.K fun τ st => (M.run fns n).ev τ st e)
  t : ∀ c X, Good fns n c X → ∀ e p, CkE c e p → PT X p (tTs X.K fun τ st => (M.run fns n).tst τ st e)
  w : ∀ c X, Good fns n c X → ∀ e op ps pos, CkE c e (.BoolOp op ps pos) → PW X (.BoolOp op ps pos) (tTs X.K fun τ st => (M.run fns n).tst τ st e)
  s : ∀ c X, Good fns n c X → (∀ x, X.fn x = true) → ∀ ss ps, CkSs c ss ps → PSs X ps (tS X.K fun τ st => (M.run fns n).ex τ st ss)
theorem allOk_zero (fns : List Fn) : AllOk fns 0 where
  e := fun c X G e p h pins s σ H Q I q => by obtain ⟨m, st, τ, d, st', _, _, z, _⟩ := q; cases z
  t := fun c X G e p h pins s σ H Q I q => by obtain ⟨m, st, τ, d, st', _, _, z, _⟩ := q; cases z
  w := fun c X G e op ps pos h wh pins s σ H Q I q => by obtain ⟨m, st, τ, d, st', _, _, z, _⟩ := q; cases z
  s := fun c X G hf ss ps h pins s σ H Q I q => by obtain ⟨m, st, τ, d, st', _, _, z, _⟩ := q; cases z
section
variable {fns : List Fn} {n : Nat} {c : Ctx} {X : Cx}
theorem args_ok (A : AllOk fns n) (G : Good fns n c X) : ∀ {es : List E} {ps : List Expr}, CkEs c es ps → PA X ps (tL X.K fun τ st => M.evs ((M.run fns n).ev τ) es st)
  | _, _, .nil => pa_nil.imp fun _ _ _ h => tL_nil h
  | _, _, .cons (e := e) (es := es) h t => (pa_cons (A.e c X G _ _ h) (args_ok A G t) (h.star _ _)).imp fun _ _ _ q =>
      tL_cons (fa := fun τ st => (M.run fns n).ev τ st e) (fr := fun τ st => M.evs ((M.run fns n).ev τ) es st) q
theorem iter_ok (A : AllOk fns n) (G : Good fns n c X) {it : E} {tg iter : Expr} (h : CkI c tg it iter) : PI X tg iter (tI X.K fun τ st => M.src (M.run fns n) τ st it) := by
  have seq : ∀ {e p}, CkE c e p → (∀ τ st, M.src (M.run fns n) τ st e = ((M.run fns n).ev τ st e).bind fun p => match p.1 with
      | .tup ds => some (.tup ds, p.2)
      | .loc l => (M.listAt p.2 l).map fun _ => (.lst l, p.2)
      | .str z => if z.cps.all (· < 128) then some (.str z, p.2) else none
      | _ => none) → PI X tg p (tI X.K fun τ st => M.src (M.run fns n) τ st e) := by
    intro e p he hsrc
    refine (pi_seq (A.e c X G e p he)).imp fun σ H R q => ?_
    obtain ⟨m, st, τ, s, st', R0, S0, e1, q⟩ := q
    have e1 := (hsrc τ st).symm.trans e1
    obtain ⟨d, s1, e2, e1⟩ := bindD e1
    refine ⟨m, st, τ, d, s1, R0, S0, e2, fun x m1 H1 b1 t1 R1 i1 => ?_⟩
    cases d with
    | tup ds =>
      cases e1
      obtain ⟨a, xs, rfl, hq, ix⟩ := i1.tup
      exact .inl ⟨a, rfl, .inr ⟨⟨xs, hq⟩, q m1 H1 _ b1 t1 R1 ⟨a, xs, rfl, hq, ix⟩⟩⟩
    | loc l =>
      obtain ⟨ds, e3, e4⟩ := mapD e1
      cases e4
      obtain ⟨a, xs, ha, rfl, hq, ix⟩ := R1.list e3 i1
      exact .inl ⟨a, rfl, .inl ⟨⟨xs, hq⟩, q m1 H1 _ b1 t1 R1 ⟨a, ha, rfl⟩⟩⟩
    | str z =>
      dsimp only at e1
      split at e1
      · rename_i hz
        cases e1
        exact .inr ⟨z, i1.str, hz, q m1 H1 _ b1 t1 R1 rfl⟩
      · cases e1
    | _ => cases e1
  cases h with
  | @rng1 _ _ a pa p0 pos hg ha =>
    refine (pi_range1 (G.gl hg) G.mo.range (args_ok A G (.cons ha .nil)) (by rw [ha.star]; rfl)).imp fun σ H R q => ?_
    obtain ⟨m, st, τ, s, st', R0, S0, e1, q⟩ := q
    have e1 : (((M.run fns n).ev τ st a).bind fun p => match p.1 with
      | .int n => if M.big n then none else some (Src.rng 0 n.toNat, p.2)
      | _ => none) = some (s, st') := e1
    obtain ⟨d, s1, e2, e1⟩ := bindD e1
    cases d with
    | int k =>
      dsimp only at e1
      split at e1
      · cases e1
      · rename_i hb
        cases e1
        unfold M.big at hb
        simp only [Bool.or_eq_true, decide_eq_true_eq, not_or] at hb
        refine ⟨m, st, τ, [.int k], st', R0, S0, ?_, fun xs m1 H1 b1 t1 R1 i1 => ?_⟩
        · show (((M.run fns n).ev τ st a).bind fun p => (some (([] : List D), p.2)).bind fun q => some (p.1 :: q.1, q.2)) = _
          rw [e2]; rfl
        · obtain ⟨x, rfl, ix⟩ := i1.one
          cases ix.int
          exact ⟨k, rfl, by omega, by omega, q m1 H1 _ b1 t1 R1 rfl⟩
    | _ => cases e1
  | @rng2 _ _ a b pa pb p0 pos hg ha hb =>
    refine (pi_range2 (G.gl hg) G.mo.range (args_ok A G (.cons ha (.cons hb .nil))) (by rw [ha.star, hb.star]; rfl) (by rw [hb.star]; rfl)).imp fun σ H R q => ?_
    obtain ⟨m, st, τ, s, st', R0, S0, e1, q⟩ := q
    have e1 : (((M.run fns n).ev τ st a).bind fun p => ((M.run fns n).ev τ p.2 b).bind fun q => match p.1, q.1 with
      | .int i, .int j => if M.big i || M.big j then none else some (Src.rng i (j - i).toNat, q.2)
      | _, _ => none) = some (s, st') := e1
    obtain ⟨d, s1, e2, e1⟩ := bindD e1
    obtain ⟨d', s2, e3, e1⟩ := bindD e1
    dsimp only at e1
    split at e1
    · rename_i i j _
      split at e1
      · cases e1
      · rename_i hb
        cases e1
        unfold M.big at hb
        simp only [Bool.or_eq_true, decide_eq_true_eq, not_or] at hb
        refine ⟨m, st, τ, [.int i, .int j], st', R0, S0, ?_, fun xs m1 H1 b1 t1 R1 i1 => ?_⟩
        · show (((M.run fns n).ev τ st a).bind fun p => (((M.run fns n).ev τ p.2 b).bind fun p => (some (([] : List D), p.2)).bind fun q => some (p.1 :: q.1, q.2)).bind fun q => some (p.1 :: q.1, q.2)) = _
          rw [e2]
          show (((M.run fns n).ev τ s1 b).bind fun p => (some (([] : List D), p.2)).bind fun q => some (p.1 :: q.1, q.2)).bind _ = _
          rw [e3]; rfl
        · obtain ⟨x, y, rfl, ix, iy⟩ := i1.two
          cases ix.int
          cases iy.int
          exact ⟨i, j, rfl, ⟨by omega, by omega, by omega, by omega⟩, q m1 H1 _ b1 t1 R1 rfl⟩
    · cases e1
  | @zip _ ts k tp a b pa pb p0 pos hg ha hb =>
    refine (pi_zip (G.gl hg) G.mo.zip (args_ok A G (.cons ha (.cons hb .nil))) (by rw [ha.star, hb.star]; rfl) (by rw [hb.star]; rfl)).imp fun σ H R q => ?_
    obtain ⟨m, st, τ, s, st', R0, S0, e1, q⟩ := q
    have e1 : (((M.run fns n).ev τ st a).bind fun p => ((M.run fns n).ev τ p.2 b).bind fun q => (M.rowAt q.2 p.1).bind fun _ => (M.rowAt q.2 q.1).map fun _ => (Src.zip p.1 q.1, q.2)) = some (s, st') := e1
    obtain ⟨d, s1, e2, e1⟩ := bindD e1
    obtain ⟨d', s2, e3, e1⟩ := bindD e1
    obtain ⟨ds, e4, e1⟩ := bindO e1
    obtain ⟨es, e5, e6⟩ := mapD e1
    cases e6
    refine ⟨m, st, τ, [d, d'], s2, R0, S0, ?_, fun xs m1 H1 b1 t1 R1 i1 => ?_⟩
    · show (((M.run fns n).ev τ st a).bind fun p => (((M.run fns n).ev τ p.2 b).bind fun p => (some (([] : List D), p.2)).bind fun q => some (p.1 :: q.1, q.2)).bind fun q => some (p.1 :: q.1, q.2)) = _
      rw [e2]
      show (((M.run fns n).ev τ s1 b).bind fun p => (some (([] : List D), p.2)).bind fun q => some (p.1 :: q.1, q.2)).bind _ = _
      rw [e3]; rfl
    · obtain ⟨x, y, rfl, ix, iy⟩ := i1.two
      obtain ⟨k1, a1, rfl, h1, w1⟩ := isRow_of ix R1 e4
      obtain ⟨k2, a2, rfl, h2, w2⟩ := isRow_of iy R1 e5
      exact ⟨k1, k2, a1, a2, rfl, w1, w2, q m1 H1 _ b1 t1 R1 ⟨k1, k2, a1, a2, rfl, h1, h2⟩⟩
  | @seq _ _ e p he =>
    refine seq he fun τ st => ?_
    cases he <;> rfl
theorem po_ok (A : AllOk fns n) (G : Good fns n c X) {o : Option E} {p : Option Expr} (h : CkO c o p) : PO X p (fun σ H Q => ∃ m st τ l st', Rel X.K m st H ∧ SlotOk X.K m H τ σ ∧ M.part (M.run fns n) τ st o = some (l, st') ∧ ∀ m' H', Sub m m' → Tr H H' → Rel X.K m' st' H' → Q l H') := by
  cases h with
  | none =>
    intro pins s σ H Q I q
    obtain ⟨m, st, τ, l, st', R0, S0, e, k⟩ := q
    cases e
    exact po_none pins s σ H Q I (k m H (Sub.refl m) (Tr.refl H) R0)
  | @some _ e p h =>
    intro pins s σ H Q I q
    obtain ⟨m, st, τ, l, st', R0, S0, e0, k⟩ := q
    have e0 : (((M.run fns n).ev τ st e).bind fun p => match p.1 with
      | .int i => some (some i, p.2)
      | _ => none) = some (l, st') := e0
    obtain ⟨d, s1, e1, e2⟩ := bindD e0
    cases d with
    | int i =>
      cases e2
      exact po_some (A.e c X G e p h) pins s σ H Q I ⟨m, st, τ, .int i, s1, R0, S0, e1, fun v m' H' b t R1 iv => ⟨i, iv.int, k m' H' b t R1⟩⟩
    | _ => cases e2
/-! ### targets -/
def gIs : List Nat → TGs
  | [] => gNil
  | i :: is => gCons (gName i) (gIs is)
def gT (K : PySem.W.Frag) : T → TG
  | .var i => gName i
  | .tup is => gTup K is.length (gIs is)
theorem gIs_of {K : PySem.W.Frag} {m : List Addr} {H : Hp} {Q : L2.St → Hp → Prop} : ∀ {is : List Nat} {ds : List D} {xs : List V} {τ τ' : Sl} {σ : L2.St}, IsDs K m H ds xs → SlotOk K m H τ σ → M.setIs is ds τ = some τ' → (∀ σ', SlotOk K m H τ' σ' → Q σ' H) → gIs is xs σ H Q
  | [], [], xs, τ, τ', σ, ix, S0, e, k => by
    cases e
    exact ⟨ix.nil, k σ S0⟩
  | i :: is, d :: ds, xs, τ, τ', σ, ix, S0, e, k => by
    obtain ⟨x, r, rfl, q, t⟩ := ix.cons
    unfold M.setIs at e
    split at e
    · exact ⟨x, r, rfl, gIs_of t (S0.put q) e k⟩
    · cases e
  | [], _ :: _, _, _, _, _, _, _, e, _ => by cases e
  | _ :: _, [], _, _, _, _, _, _, e, _ => by cases e
theorem setIs_len : ∀ {is : List Nat} {ds : List D} {τ τ' : Sl}, M.setIs is ds τ = some τ' → is.length = ds.length
  | [], [], _, _, _ => rfl
  | i :: is, d :: ds, τ, τ', e => by
    unfold M.setIs at e
    split at e
    · rw [List.length_cons, List.length_cons, setIs_len e]
    · cases e
  | [], _ :: _, _, _, e => by cases e
  | _ :: _, [], _, _, e => by cases e
theorem gT_of {K : PySem.W.Frag} {m : List Addr} {H : Hp} {Q : L2.St → Hp → Prop} {t : T} {d : D} {v : V} {τ τ' : Sl} {σ : L2.St} (iv : IsD K m H d v) (S0 : SlotOk K m H τ σ) (e : M.setT t d τ = some τ') (k : ∀ σ', SlotOk K m H τ' σ' → Q σ' H) : gT K t v σ H Q := by
  cases t with
  | var i =>
    have e : (if i < τ.length then some (τ.set i (some d)) else none) = some τ' := e
    split at e
    · cases e
      exact k _ (S0.put iv)
    · cases e
  | tup is =>
    cases d with
    | tup ds =>
      obtain ⟨a, xs, rfl, hq, ix⟩ := iv.tup
      have e : M.setIs is ds τ = some τ' := e
      exact ⟨a, xs, rfl, hq, by rw [← ix.length, setIs_len e], gIs_of ix S0 e k⟩
    | _ => cases e
theorem var_of (G : Good fns n c X) {i : Nat} {x : Str} (h : c.N[i]? = some x) : X.N[i]? = some x := by rw [G.N]; exact h
theorem boot_all' : bootBuiltins ("all" : Str) = some (.builtin "all") := by decide +kernel
theorem boot_int' : bootBuiltins ("int" : Str) = some (.type "int") := by decide +kernel
theorem boot_bool' : bootBuiltins ("bool" : Str) = some (.type "bool") := by decide +kernel
theorem boot_str' : bootBuiltins ("str" : Str) = some (.type "str") := by decide +kernel
theorem boot_isi' : bootBuiltins ("isinstance" : Str) = some (.builtin "isinstance") := by decide +kernel
theorem boot_sorted' : bootBuiltins ("sorted" : Str) = some (.builtin "sorted") := by decide +kernel
theorem boot_len' : bootBuiltins ("len" : Str) = some (.builtin "len") := by decide +kernel
theorem boot_min' : bootBuiltins ("min" : Str) = some (.builtin "min") := by decide +kernel
theorem boot_max' : bootBuiltins ("max" : Str) = some (.builtin "max") := by decide +kernel
theorem boot_list' : bootBuiltins ("list" : Str) = some (.type "list") := by decide +kernel
theorem boot_tuple' : bootBuiltins ("tuple" : Str) = some (.type "tuple") := by decide +kernel
theorem ty_ok (G : Good fns n c X) {t : M.Ty} {pos : Pos} (ht : t ≠ .non) (hg : c.sc.names.lookup (Str.ofString t.name) = some .globalImplicit) : PE X (.Name (Str.ofString t.name) pos) (tC (.ty t.name)) := by
  cases t with
  | non => exact absurd rfl ht
  | bl => exact pe_bltn (G.gl hg) G.mo.bool boot_bool' rfl (by decide) (by decide)
  | int => exact pe_bltn (G.gl hg) G.mo.int boot_int' rfl (by decide) (by decide)
  | str => exact pe_bltn (G.gl hg) G.mo.str boot_str' rfl (by decide) (by decide)
  | tup => exact pe_bltn (G.gl hg) G.mo.tuple boot_tuple' rfl (by decide) (by decide)
  | lst => exact pe_bltn (G.gl hg) G.mo.list boot_list' rfl (by decide) (by decide)
def tCs : List V → TA
  | [] => tNil
  | v :: vs => tCons (tC v) (tCs vs)
theorem tCs_end : ∀ (vs : List V) (σ : L2.St) (H : Hp) (Q : List V → Hp → Prop), Q vs H → tCs vs σ H Q
  | [], _, _, _, h => h
  | v :: vs, σ, H, Q, h => tCs_end vs σ H (fun xs H2 => Q (v :: xs) H2) h
theorem tys_ok (G : Good fns n c X) : ∀ {ts : List M.Ty} {ps : List Expr}, CkTys c ts ps → PA X ps (tCs (ts.map fun t => V.ty t.name)) ∧ ∀ t ∈ ts, t ≠ .non
  | _, _, .nil => ⟨pa_nil, fun _ h => nomatch h⟩
  | _, _, .cons ht hg h => by
    obtain ⟨h1, h2⟩ := tys_ok G h
    refine ⟨pa_cons (ty_ok G ht hg) h1 rfl, fun t hm => ?_⟩
    rcases List.mem_cons.mp hm with z | z
    · rw [z]; exact ht
    · exact h2 t z
end
end MS
end
section
set_option linter.all false
set_option Elab.async false
set_option maxRecDepth 100000
set_option maxHeartbeats 4000000
namespace MS
open PySem PySem.Spec PyProof.Rows L2
open M (D Cell Store Sl E S T Src Fn Out R)
section
variable {fns : List Fn} {n : Nat} {c : Ctx} {X : Cx}
theorem un_negD : UnR X (unaryOp .USub) (rU1 X.K fun st d => match d with | .int i => some (.int (-i), st) | _ => none) := by
  intro pins s σ H x v Q I rx h
  obtain ⟨m, st, a, d, st', R0, i1, e, q⟩ := h
  cases a with
  | int i =>
    cases e
    exact un_neg pins s σ H x v Q I rx ⟨i, i1.int, q.here R0 (mkInt _)⟩
  | _ => cases e
theorem comp_scope (G : Good fns n c X) {N : List Str} {sr : List (Option Nat)} {scope : Scope} (hk : scope.kind = .function) (hcell : ∀ y ∈ scope.names, y.2 ≠ .cell) (hfree : ∀ y ∈ scope.names, y.2 = .free → c.sc.names.lookup y.1 = some .cell ∨ c.sc.names.lookup y.1 = some .free)
    (hloc : ∀ y ∈ scope.names, y.2 = .local → scope.names.lookup y.1 = some .local) (hlen : sr.length = N.length) (hsrc : ∀ (j i : Nat), sr[j]? = some (some i) → ∃ x, N[j]? = some x ∧ c.N[i]? = some x ∧ scope.names.lookup x = some .free) : CompScope X N sr scope :=
  ⟨hk, hcell, fun y hy hf => by
    have := hfree y hy hf
    show X.env.scope.names.lookup y.1 = _ ∨ X.env.scope.names.lookup y.1 = _
    rw [G.sc]; exact this, hloc, hlen, fun j i h => by
    obtain ⟨x, a, b, d⟩ := hsrc j i h
    exact ⟨x, a, var_of G b, d⟩⟩
theorem inner_ok {K : PySem.W.Frag} {m : List Addr} {H : Hp} {τ : Sl} {σ : L2.St} (sr : List (Option Nat)) (h : SlotOk K m H τ σ) : SlotOk K m H (M.inner sr τ) (innerS sr σ) := by
  refine ⟨by unfold M.inner innerS; rw [List.length_map, List.length_map], fun j d e => ?_⟩
  unfold M.inner at e
  rw [List.getElem?_map] at e
  unfold innerS
  rw [List.getElem?_map]
  cases q : sr[j]? with
  | none => rw [q] at e; cases e
  | some o =>
    rw [q] at e
    cases o with
    | none => cases e
    | some i =>
      have hi : τ[i]? = some (some d) := by
        cases z : τ[i]? with
        | none => simp [z] at e
        | some w =>
          cases w with
          | none => simp [z] at e
          | some w => simpa [z] using e
      obtain ⟨v, a, b⟩ := h.at_ i d hi
      refine ⟨v, ?_, b⟩
      simp [a]
/-- a comprehension's reading from its run -/
theorem tD_comp {K : PySem.W.Frag} {r : R} {t : T} {it elt : E} {q : Option E} {sr : List (Option Nat)} {tt : TT} {σ : L2.St} {H : Hp} {Q : VK}
    (htt : ∀ σ H (Q : Bool → Hp → Prop), (match q with
      | none => Q true H
      | some c => tTs K (fun τ st => r.tst τ st c) σ H Q) → tt σ H Q)
    (h : tD K (fun τ st => M.stepEv r τ st (.comp t it q elt sr)) σ H Q) :
    tComp sr (tI K fun τ st => M.src r τ st it) (gT K t) tt (tD K fun τ st => r.ev τ st elt) σ H Q := by
  obtain ⟨m, st, τ, d, st', R0, S0, e, post⟩ := h
  have e : ((M.src r τ st it).bind fun p => (M.loopC p.1 (M.turnC r t q elt) (p.1.size p.2 + 1) 0 [] (M.inner sr τ) p.2).map fun q => M.alloc q.2 (.lst true q.1)) = some (d, st') := e
  obtain ⟨p, e1, e⟩ := bindO e
  obtain ⟨res, e2, e3⟩ := mapD e
  refine ⟨m, st, τ, p.1, p.2, R0, S0, e1, fun m1 H1 J b1 t1 R1 hJ => ?_⟩
  refine ⟨fun i' k acc σ' H' => ∃ m2 st2 τ2 accD, Sub m1 m2 ∧ Tr H1 H' ∧ Rel K m2 st2 H' ∧ SlotOk K m2 H' τ2 σ' ∧ IsDs K m2 H' accD acc ∧ M.loopC p.1 (M.turnC r t q elt) k i' accD τ2 st2 = some res,
    ⟨_, m1, p.2, M.inner sr τ, [], Sub.refl _, Tr.refl _, R1, inner_ok sr (S0.mono b1 t1), mkNil, e2⟩, ?_⟩
  rintro j k acc σ' H' ⟨m2, st2, τ2, accD, b2, t2, R2, S2, ia, e4⟩
  cases k with
  | zero => cases e4
  | succ k =>
    have e4 : (p.1.at st2 j).bind (fun o => match o with
      | none => if M.lim < accD.length then none else some (accD, st2)
      | some d => if M.lim ≤ accD.length then none else (M.turnC r t q elt τ2 st2 d).bind fun z => M.loopC p.1 (M.turnC r t q elt) k (j + 1) (match z.1 with | some x => accD ++ [x] | none => accD) z.2.1 z.2.2) = some res := e4
    obtain ⟨o, e5, e4⟩ := bindO e4
    have l1 := ia.length
    have l2 := lim_eq
    cases o with
    | none =>
      dsimp only at e4
      split at e4
      · cases e4
      · rename_i hl
        cases e4
        refine .inl ⟨(hJ.mono b2 t2).done R2 e5, by omega, fun pp hp => ?_⟩
        cases e3
        exact post _ (m2 ++ [pp]) _ (b1.trans (b2.trans (Sub.app _ _))) (t1.trans (t2.trans (Tr.of_same (same_new hp)))) (R2.new hp ia) R2.newLoc
    | some d' =>
      dsimp only at e4
      split at e4
      · cases e4
      · rename_i hl
        obtain ⟨hgo, hy⟩ := (hJ.mono b2 t2).next R2 e5
        refine .inr ⟨hgo, by omega, fun x H2 hyl => ?_⟩
        obtain ⟨sm, ix⟩ := hy x H2 hyl
        have t2 := t2.trans (Tr.of_same sm)
        have R2 := R2.same sm
        have S2 := S2.mono (Sub.refl _) (Tr.of_same sm)
        have ia := isDs_mono (Sub.refl _) (Tr.of_same sm) _ _ ia
        obtain ⟨z, e6, e4⟩ := bindO e4
        unfold M.turnC at e6
        obtain ⟨τ3, e7, e6⟩ := bindO e6
        refine gT_of ix S2 e7 fun σ3 S3 => ?_
        · refine htt _ _ _ ?_
          cases q with
          | none =>
            dsimp only at e6 ⊢
            obtain ⟨y, e8, e9⟩ := mapD e6
            cases e9
            rw [if_pos rfl]
            refine ⟨m2, st2, _, y.1, y.2, R2, S3, e8, fun v m3 H3 b3 t3 R3 i3 => ⟨k, Nat.lt_succ_self k, m3, y.2, _, accD ++ [y.1], b2.trans b3, t2.trans t3, R3, S3.mono b3 t3, (isDs_mono b3 t3 _ _ ia).append (mkCons i3 mkNil), e4⟩⟩
          | some cq =>
            dsimp only at e6 ⊢
            obtain ⟨bb, e8, e6⟩ := bindO e6
            refine ⟨m2, st2, _, bb.1, bb.2, R2, S3, e8, fun m3 H3 b3 t3 R3 => ?_⟩
            cases hb : bb.1 with
            | true =>
              rw [hb, if_pos rfl] at e6
              rw [if_pos rfl]
              obtain ⟨y, e9, e10⟩ := mapD e6
              cases e10
              refine ⟨m3, bb.2, _, y.1, y.2, R3, S3.mono b3 t3, e9, fun v m4 H4 b4 t4 R4 i4 => ⟨k, Nat.lt_succ_self k, m4, y.2, _, accD ++ [y.1], b2.trans (b3.trans b4), t2.trans (t3.trans t4), R4, S3.mono (b3.trans b4) (t3.trans t4), (isDs_mono (b3.trans b4) (t3.trans t4) _ _ ia).append (mkCons i4 mkNil), e4⟩⟩
            | false =>
              rw [hb, if_neg Bool.false_ne_true] at e6
              cases e6
              rw [if_neg Bool.false_ne_true]
              exact ⟨k, Nat.lt_succ_self k, m3, bb.2, _, accD, b2.trans b3, t2.trans t3, R3, S3.mono b3 t3, isDs_mono b3 t3 _ _ ia, e4⟩
theorem targets_ok (G : Good fns n c X) : ∀ {is : List Nat} {es : List Expr}, CkTs c is es → (∀ i ∈ is, ∀ x, c.N[i]? = some x → X.fn x = true ∨ c.sc.names.lookup x = some .local) → PGs X es (gIs is) ∧ (assignEach es X.env).length = is.length ∧ (assignEach es X.env).findIdx? (·.1) = none
  | _, _, .nil, _ => ⟨pgs_nil, rfl, rfl⟩
  | _, _, .cons (i := i) (x := x) (pos := pos) (is := is) (es := es) hN hl h, hf => by
    obtain ⟨h1, h2, h3⟩ := targets_ok G h fun j hj => hf j (List.mem_cons_of_mem _ hj)
    have hg : PG X (.Name x pos) (gName i) := pg_name (by rw [G.N]; exact G.nd) (var_of G hN) (by show X.env.scope.names.lookup x = _ ∨ _ = _; rw [G.sc]; exact hl) (by rw [G.sc]; exact hf i List.mem_cons_self x hN)
    refine ⟨pgs_cons hg h1 rfl, ?_, ?_⟩
    · show (assignEach es X.env).length + 1 = is.length + 1
      rw [h2]
    · show List.findIdx? (·.1) ((false, assign (.Name x pos) X.env) :: assignEach es X.env) = none
      rw [List.findIdx?_cons, h3]
      rfl
theorem target_ok (G : Good fns n c X) {t : T} {tg : Expr} (h : CkT c t tg) (hf : ∀ i ∈ t.slots, ∀ x, c.N[i]? = some x → X.fn x = true ∨ c.sc.names.lookup x = some .local) : PG X tg (gT X.K t) := by
  cases h with
  | @var i x pos hN hl => exact pg_name (by rw [G.N]; exact G.nd) (var_of G hN) (by show X.env.scope.names.lookup x = _ ∨ _ = _; rw [G.sc]; exact hl) (by rw [G.sc]; exact hf i (by simp [T.slots]) x hN)
  | @tup is es k pos h =>
    obtain ⟨h1, h2, h3⟩ := targets_ok G h hf
    exact pg_tup G.calm h1 h2 h3
theorem e_ok (A : AllOk fns n) (G' : Good fns (n + 1) c X) {e : E} {p : Expr} (h : CkE c e p) : PE X p (tD X.K fun τ st => M.stepEv (M.run fns n) τ st e) := by
  have G := G'.low
  have hu : X.A.units + 64 < cLine := G'.room.units
  cases h with
  | @var _ i x pos hN hv hd hcd =>
    refine (pe_var (var_of G hN) (by rw [G.sc]; exact hv) hd hcd).imp fun σ H Q h => ?_
    obtain ⟨m, st, τ, d, st', R0, S0, e, q⟩ := h
    simp only [M.stepEv] at e
    split at e
    · rename_i d' hd'
      cases e
      obtain ⟨v, a, b⟩ := S0.at_ i d hd'
      exact ⟨v, a, q.here R0 b⟩
    · cases e
  | int => exact pe_int.imp fun σ H Q ⟨m, st, τ, d, st', R0, S0, e, q⟩ => by cases e; exact q.here R0 (mkInt _)
  | bl => exact pe_bl.imp fun σ H Q ⟨m, st, τ, d, st', R0, S0, e, q⟩ => by cases e; exact q.here R0 (mkBl _)
  | non => exact pe_non.imp fun σ H Q ⟨m, st, τ, d, st', R0, S0, e, q⟩ => by cases e; exact q.here R0 mkNon
  | str => exact pe_str.imp fun σ H Q ⟨m, st, τ, d, st', R0, S0, e, q⟩ => by cases e; exact q.here R0 (mkStr _)
  | @glo _ x d pos hg hm hd =>
    obtain ⟨u, v, h1, h2, h3⟩ := G.mo.glo x d hm
    exact (pe_glob (G.gl hg) h1 h2 hd).imp fun σ H Q ⟨m, st, τ, d, st', R0, S0, e, q⟩ => by cases e; exact q.here R0 (h3 m H)
  | @bin _ op a b pa pb pos ha hb =>
    exact (pe_op (op_binD op) (A.e c X G a pa ha) (A.e c X G b pb hb)).imp fun σ H Q h => tD_bin (fa := fun τ st => (M.run fns n).ev τ st a) (fb := fun τ st => (M.run fns n).ev τ st b) (g := fun st x y => M.binop st op x y) h
  | @neg _ a pa pos ha =>
    exact (pe_un un_negD (A.e c X G a pa ha)).imp fun σ H Q h => tD_un (fa := fun τ st => (M.run fns n).ev τ st a) h
  | @not _ a pa pos ha =>
    refine (pe_not (A.e c X G a pa ha)).imp fun σ H Q h => ?_
    obtain ⟨m, st, τ, d, st', R0, S0, e, q⟩ := h
    obtain ⟨d1, s1, e1, e⟩ := bindD e
    refine ⟨m, st, τ, d1, s1, R0, S0, e1, fun v m1 H1 b1 t1 R1 i1 => ?_⟩
    cases d1 with
    | bl k =>
      cases e
      exact ⟨k, i1.bl, q _ m1 H1 b1 t1 R1 (mkBl _)⟩
    | _ => cases e
  | @cmp _ op a b pa pb pos ha hb hm =>
    exact (pe_cmpR (op_cmpD hu op) (A.e c X G a pa ha) (A.e c X G b pb hb) hm).imp fun σ H Q h => tD_bin (fa := fun τ st => (M.run fns n).ev τ st a) (fb := fun τ st => (M.run fns n).ev τ st b) (g := fun st x y => (M.cmpD st op x y).map fun k => (.bl k, st)) h
  | @cmp2 _ op op' a b d pa pb pd pos ha hb hd hm =>
    refine (pe_chain (op_cmpD hu op) (op_cmpD hu op') (A.e c X G a pa ha) (A.e c X G b pb hb) (A.e c X G d pd hd) hm).imp fun σ H Q h => ?_
    obtain ⟨m, st, τ, dd, st', R0, S0, e, q⟩ := h
    obtain ⟨d1, s1, e1, e⟩ := bindD e
    obtain ⟨d2, s2, e2, e⟩ := bindD e
    obtain ⟨k, e3, e⟩ := bindO e
    refine ⟨m, st, τ, d1, s1, R0, S0, e1, fun x m1 H1 b1 t1 R1 i1 => ⟨m1, s1, τ, d2, s2, R1, S0.mono b1 t1, e2, fun y m2 H2 b2 t2 R2 i2 =>
      ⟨m2, s2, d1, d2, .bl k, s2, R2, isD_mono b2 t2 _ _ i1, i2, by show Option.map _ (M.cmpD s2 op d1 d2) = _; rw [e3]; rfl, fun z m3 H3 b3 t3 R3 i3 => ⟨k, i3.bl, ?_⟩⟩⟩⟩
    cases k with
    | true =>
      rw [if_pos rfl] at e ⊢
      obtain ⟨d3, s3, e4, e⟩ := bindD e
      exact ⟨m3, s2, τ, d3, s3, R3, S0.mono (b1.trans (b2.trans b3)) (t1.trans (t2.trans t3)), e4, fun y' m4 H4 b4 t4 R4 i4 =>
        ⟨m4, s3, d2, d3, dd, st', R4, isD_mono (b3.trans b4) (t3.trans t4) _ _ i2, i4, e, q.mono (b1.trans (b2.trans (b3.trans b4))) (t1.trans (t2.trans (t3.trans t4)))⟩⟩
    | false =>
      rw [if_neg Bool.false_ne_true] at e ⊢
      cases e
      exact q _ m3 H3 (b1.trans (b2.trans b3)) (t1.trans (t2.trans t3)) R3 (mkBl _)
  | @and2 _ a b pa pb pos ha hb =>
    refine (pe_and (A.e c X G a pa ha) (pe_one (A.e c X G b pb hb))).imp fun σ H Q h => ?_
    obtain ⟨m, st, τ, d, st', R0, S0, e, q⟩ := h
    obtain ⟨d1, s1, e1, e⟩ := bindD e
    refine ⟨m, st, τ, d1, s1, R0, S0, e1, fun v m1 H1 b1 t1 R1 i1 => ?_⟩
    cases d1 with
    | bl k =>
      cases k with
      | true => exact ⟨true, i1.bl, by rw [if_pos rfl]; exact ⟨m1, s1, τ, d, st', R1, S0.mono b1 t1, e, q.mono b1 t1⟩⟩
      | false => cases e; exact ⟨false, i1.bl, by rw [if_neg Bool.false_ne_true]; exact q _ m1 H1 b1 t1 R1 (mkBl _)⟩
    | _ => cases e
  | @andN _ a b pa pb pd r pos ha hb =>
    refine (pe_and (A.e c X G a pa ha) (A.e c X G b _ hb)).imp fun σ H Q h => ?_
    obtain ⟨m, st, τ, d, st', R0, S0, e, q⟩ := h
    obtain ⟨d1, s1, e1, e⟩ := bindD e
    refine ⟨m, st, τ, d1, s1, R0, S0, e1, fun v m1 H1 b1 t1 R1 i1 => ?_⟩
    cases d1 with
    | bl k =>
      cases k with
      | true => exact ⟨true, i1.bl, by rw [if_pos rfl]; exact ⟨m1, s1, τ, d, st', R1, S0.mono b1 t1, e, q.mono b1 t1⟩⟩
      | false => cases e; exact ⟨false, i1.bl, by rw [if_neg Bool.false_ne_true]; exact q _ m1 H1 b1 t1 R1 (mkBl _)⟩
    | _ => cases e
  | @or2 _ a b pa pb pos ha hb =>
    refine (pe_or (A.e c X G a pa ha) (pe_one (A.e c X G b pb hb))).imp fun σ H Q h => ?_
    obtain ⟨m, st, τ, d, st', R0, S0, e, q⟩ := h
    obtain ⟨d1, s1, e1, e⟩ := bindD e
    refine ⟨m, st, τ, d1, s1, R0, S0, e1, fun v m1 H1 b1 t1 R1 i1 => ?_⟩
    cases d1 with
    | bl k =>
      cases k with
      | false => exact ⟨false, i1.bl, by rw [if_neg Bool.false_ne_true]; exact ⟨m1, s1, τ, d, st', R1, S0.mono b1 t1, e, q.mono b1 t1⟩⟩
      | true => cases e; exact ⟨true, i1.bl, by rw [if_pos rfl]; exact q _ m1 H1 b1 t1 R1 (mkBl _)⟩
    | _ => cases e
  | @orN _ a b pa pb pd r pos ha hb =>
    refine (pe_or (A.e c X G a pa ha) (A.e c X G b _ hb)).imp fun σ H Q h => ?_
    obtain ⟨m, st, τ, d, st', R0, S0, e, q⟩ := h
    obtain ⟨d1, s1, e1, e⟩ := bindD e
    refine ⟨m, st, τ, d1, s1, R0, S0, e1, fun v m1 H1 b1 t1 R1 i1 => ?_⟩
    cases d1 with
    | bl k =>
      cases k with
      | false => exact ⟨false, i1.bl, by rw [if_neg Bool.false_ne_true]; exact ⟨m1, s1, τ, d, st', R1, S0.mono b1 t1, e, q.mono b1 t1⟩⟩
      | true => cases e; exact ⟨true, i1.bl, by rw [if_pos rfl]; exact q _ m1 H1 b1 t1 R1 (mkBl _)⟩
    | _ => cases e
  | @ite _ q a b pq pa pb pos hq ha hb =>
    refine (pe_ifExp (A.t c X G q pq hq) (A.e c X G a pa ha) (A.e c X G b pb hb)).imp fun σ H Q h => ?_
    obtain ⟨m, st, τ, d, st', R0, S0, e, post⟩ := h
    obtain ⟨bb, e1, e⟩ := bindO e
    refine ⟨m, st, τ, bb.1, bb.2, R0, S0, e1, fun m1 H1 b1 t1 R1 => ?_⟩
    cases hb : bb.1 with
    | true =>
      rw [hb, if_pos rfl] at e
      rw [if_pos rfl]
      exact ⟨m1, bb.2, τ, d, st', R1, S0.mono b1 t1, e, post.mono b1 t1⟩
    | false =>
      rw [hb, if_neg Bool.false_ne_true] at e
      rw [if_neg Bool.false_ne_true]
      exact ⟨m1, bb.2, τ, d, st', R1, S0.mono b1 t1, e, post.mono b1 t1⟩
  | @tup _ es ps k pos hs =>
    refine (pe_tup (args_ok A G hs)).imp fun σ H Q h => ?_
    obtain ⟨m, st, τ, d, st', R0, S0, e, post⟩ := h
    obtain ⟨p, e1, e⟩ := bindO e
    split at e
    · cases e
    · rename_i hl
      cases e
      refine ⟨m, st, τ, p.1, p.2, R0, S0, e1, fun xs m1 H1 b1 t1 R1 ix => ?_⟩
      have l1 := ix.length
      have l2 := lim_eq
      refine ⟨by omega, fun pp hp => ?_⟩
      have sm := same_new (o := .tup xs) hp
      exact post _ m1 _ b1 (t1.trans (Tr.of_same sm)) (R1.same sm) (mkTup (SqT.of upd_same) (isDs_mono (Sub.refl _) (Tr.of_same sm) _ _ ix))
  | @lst _ es ps pos hs =>
    refine (pe_lst (args_ok A G hs)).imp fun σ H Q h => ?_
    obtain ⟨m, st, τ, d, st', R0, S0, e, post⟩ := h
    obtain ⟨p, e1, e⟩ := bindO e
    split at e
    · cases e
    · rename_i hl
      cases e
      refine ⟨m, st, τ, p.1, p.2, R0, S0, e1, fun xs m1 H1 b1 t1 R1 ix => ?_⟩
      have l1 := ix.length
      have l2 := lim_eq
      refine ⟨by omega, fun pp hp => ?_⟩
      exact post _ (m1 ++ [pp]) _ (b1.trans (Sub.app _ _)) (t1.trans (Tr.of_same (same_new hp))) (R1.new hp ix) R1.newLoc
  | @idx _ a b pa pb pos ha hb hs =>
    exact (pe_ix ix_D (A.e c X G a pa ha) (A.e c X G b pb hb) hs).imp fun σ H Q h => tD_bin (fa := fun τ st => (M.run fns n).ev τ st a) (fb := fun τ st => (M.run fns n).ev τ st b) (g := fun st x y => (M.idxD st x y).map fun d => (d, st)) h
  | @call _ f x es p ps p0 pos hg hf hd hs =>
    obtain ⟨fa, fd, pars, hm, F, hk, hb⟩ := G'.tab n (Nat.lt_succ_self n) f x hf
    have hp : Star p := by cases hs with | cons h _ => exact h.star
    have ht : (backTo pos (starEach ps X.env)).any (·.1) = false := by cases hs with | cons _ t => exact noStars t pos X.env
    refine (pe_call F G.room (G.gl hg) hm hk hb .nil pass0 (args_ok A G hs) hd (hp _ _) ht).imp fun σ H Q h => ?_
    obtain ⟨m, st, τ, d, st', R0, S0, e, post⟩ := h
    obtain ⟨q, e1, e⟩ := bindO e
    refine ⟨m, st, τ, q.1, q.2, R0, S0, e1, fun xs m1 H1 b1 t1 R1 ix => ?_⟩
    show spN X.K fns n f (xs ++ []) H1 Q E0
    rw [List.append_nil]
    exact ⟨m1, q.2, q.1, d, st', R1, ix, e, post.mono b1 t1⟩
  | @bcall _ b es p ps p0 pos hg hs =>
    have hp : Star p := by cases hs with | cons h _ => exact h.star
    have ht : (backTo pos (starEach ps X.env)).any (·.1) = false := by cases hs with | cons _ t => exact noStars t pos X.env
    have hA := args_ok A G hs
    cases b with
    | len => exact (pe_callB call_lenD (G.gl hg) G.mo.len boot_len' hA (by decide) (by decide) (hp _ _) ht).imp fun σ H Q h => tL_call (fa := fun τ st => M.evs ((M.run fns n).ev τ) es st) (g := M.bLen) h
    | min => exact (pe_callB (call_minD G.calm) (G.gl hg) G.mo.min boot_min' hA (by decide) (by decide) (hp _ _) ht).imp fun σ H Q h => tL_call (fa := fun τ st => M.evs ((M.run fns n).ev τ) es st) (g := M.bMin) h
    | max => exact (pe_callB (call_maxD G.calm) (G.gl hg) G.mo.max boot_max' hA (by decide) (by decide) (hp _ _) ht).imp fun σ H Q h => tL_call (fa := fun τ st => M.evs ((M.run fns n).ev τ) es st) (g := M.bMax) h
    | tuple => exact (pe_callTy call_tupleD (G.gl hg) G.mo.tuple boot_tuple' hA (by decide) (by decide) (hp _ _) ht).imp fun σ H Q h => tL_call (fa := fun τ st => M.evs ((M.run fns n).ev τ) es st) (g := M.bTuple) h
    | list => exact (pe_callTy call_listD (G.gl hg) G.mo.list boot_list' hA (by decide) (by decide) (hp _ _) ht).imp fun σ H Q h => tL_call (fa := fun τ st => M.evs ((M.run fns n).ev τ) es st) (g := M.bList) h
    | all => exact (pe_callB (call_allD G.calm) (G.gl hg) G.mo.all boot_all' hA (by decide) (by decide) (hp _ _) ht).imp fun σ H Q h => tL_call (fa := fun τ st => M.evs ((M.run fns n).ev τ) es st) (g := M.bAll) h
    | int => exact (pe_callTy call_intD (G.gl hg) G.mo.int boot_int' hA (by decide) (by decide) (hp _ _) ht).imp fun σ H Q h => tL_call (fa := fun τ st => M.evs ((M.run fns n).ev τ) es st) (g := M.bInt) h
    | str => exact (pe_callTy call_strD (G.gl hg) G.mo.str boot_str' hA (by decide) (by decide) (hp _ _) ht).imp fun σ H Q h => tL_call (fa := fun τ st => M.evs ((M.run fns n).ev τ) es st) (g := M.bStr) h
    | sorted => exact (pe_callB call_sortedD (G.gl hg) G.mo.sorted boot_sorted' hA (by decide) (by decide) (hp _ _) ht).imp fun σ H Q h => tL_call (fa := fun τ st => M.evs ((M.run fns n).ev τ) es st) (g := M.bSorted) h
  | @isi1 _ t a pa p0 p1 pos hg ht hgt ha =>
    refine (pe_callB (call_isi1 t ht) (G.gl hg) G.mo.isinstance boot_isi' (pa_cons (A.e c X G a pa ha) (pa_cons (ty_ok G ht hgt) pa_nil rfl) (ha.star _ _)) (by decide) (by decide) (ha.star _ _) rfl).imp fun σ H Q h => ?_
    obtain ⟨m, st, τ, d, st', R0, S0, e, post⟩ := h
    obtain ⟨d1, s1, e1, e⟩ := bindD e
    obtain ⟨nm, e2, e3⟩ := mapD e
    cases e3
    refine ⟨m, st, τ, d1, s1, R0, S0, e1, fun x m1 H1 b1 t1 R1 ix => ?_⟩
    refine ⟨m1, s1, d1, nm, x, rfl, R1, ix, e2, post _ m1 H1 b1 t1 R1 ?_⟩
    have : ([t].any fun t => M.tyIs t nm) = M.tyIs t nm := by simp
    rw [this]
    exact mkBl _
  | @isiN _ ts a pa p0 ps k p1 pos hlen hg ht ha =>
    obtain ⟨h1, h2⟩ := tys_ok G ht
    refine (pe_callB (call_isiN ts h2) (G.gl hg) G.mo.isinstance boot_isi' (pa_cons (A.e c X G a pa ha) (pa_cons (pe_tup h1) pa_nil rfl) (ha.star _ _)) (by decide) (by decide) (ha.star _ _) rfl).imp fun σ H Q h => ?_
    obtain ⟨m, st, τ, d, st', R0, S0, e, post⟩ := h
    obtain ⟨d1, s1, e1, e⟩ := bindD e
    obtain ⟨nm, e2, e3⟩ := mapD e
    cases e3
    refine ⟨m, st, τ, d1, s1, R0, S0, e1, fun x m1 H1 b1 t1 R1 ix => ?_⟩
    refine tCs_end _ σ H1 _ ⟨?_, fun pp hp => ?_⟩
    · rw [List.length_map]
      exact Nat.le_of_lt (small1000 hlen)
    · have sm := same_new (o := .tup (ts.map fun t => V.ty t.name)) hp
      exact ⟨m1, s1, d1, nm, x, pp, rfl, upd_same, R1.same sm, isD_mono (Sub.refl _) (Tr.of_same sm) _ _ ix, e2, post _ m1 _ b1 (t1.trans (Tr.of_same sm)) (R1.same sm) (mkBl _)⟩
  | @append _ a e x xp pe apos cpos ha he hl =>
    refine (pe_bm PySem.F.plainAttrs_list PySem.F.slot_list_append PySem.F.type_list_append mt_appendD (A.e c X G a _ ha) (args_ok A G (.cons he .nil)) rfl (by rw [he.star]; rfl) hl (he.star _ _) rfl).imp fun σ H Q h => ?_
    obtain ⟨m, st, τ, d, st', R0, S0, e0, post⟩ := h
    obtain ⟨d1, s1, e1, e0⟩ := bindD e0
    split at e0
    · rename_i hm
      obtain ⟨q, e2, e0⟩ := bindO e0
      refine ⟨m, st, τ, d1, s1, R0, S0, e1, fun v m1 H1 b1 t1 R1 i1 => ⟨?_, m1, s1, τ, q.1, q.2, R1, S0.mono b1 t1, e2, fun xs m2 H2 b2 t2 R2 i2 => ⟨m2, q.2, d1, q.1, d, st', R2, isD_mono b2 t2 _ _ i1, i2, e0, post.mono (b1.trans b2) (t1.trans t2)⟩⟩⟩
      cases d1 with
      | loc l =>
        have hm : (true && (M.listAt s1 l).isSome) = true := hm
        rw [Bool.true_and] at hm
        obtain ⟨ds, hds⟩ := Option.isSome_iff_exists.mp hm
        obtain ⟨a', xs, _, rfl, hq, _⟩ := R1.list hds i1
        exact .inl ⟨rfl, xs, hq⟩
      | _ => cases hm
    · cases e0
  | @find _ a e pa pe apos cpos ha he hb hl =>
    refine (pe_bm PySem.F.plainAttrs_str PySem.F.slot_str_find PySem.F.type_str_find mt_findD (A.e c X G a _ ha) (args_ok A G (.cons he .nil)) (hb X.env) (by rw [he.star]; rfl) hl (he.star _ _) rfl).imp fun σ H Q h => ?_
    obtain ⟨m, st, τ, d, st', R0, S0, e0, post⟩ := h
    obtain ⟨d1, s1, e1, e0⟩ := bindD e0
    split at e0
    · rename_i hm
      obtain ⟨q, e2, e0⟩ := bindO e0
      refine ⟨m, st, τ, d1, s1, R0, S0, e1, fun v m1 H1 b1 t1 R1 i1 => ⟨?_, m1, s1, τ, q.1, q.2, R1, S0.mono b1 t1, e2, fun xs m2 H2 b2 t2 R2 i2 => ⟨m2, q.2, d1, q.1, d, st', R2, isD_mono b2 t2 _ _ i1, i2, e0, post.mono (b1.trans b2) (t1.trans t2)⟩⟩⟩
      cases d1 with
      | str z => rw [i1.str]; exact rfl
      | loc l =>
        have hm : (false && (M.listAt s1 l).isSome) = true := hm
        rw [Bool.false_and] at hm
        cases hm
      | _ => cases hm
    · cases e0
  | @join _ a e pa pe apos cpos ha he hb hl =>
    refine (pe_bm PySem.F.plainAttrs_str PySem.F.slot_str_join PySem.F.type_str_join mt_joinD (A.e c X G a _ ha) (args_ok A G (.cons he .nil)) (hb X.env) (by rw [he.star]; rfl) hl (he.star _ _) rfl).imp fun σ H Q h => ?_
    obtain ⟨m, st, τ, d, st', R0, S0, e0, post⟩ := h
    obtain ⟨d1, s1, e1, e0⟩ := bindD e0
    split at e0
    · rename_i hm
      obtain ⟨q, e2, e0⟩ := bindO e0
      refine ⟨m, st, τ, d1, s1, R0, S0, e1, fun v m1 H1 b1 t1 R1 i1 => ⟨?_, m1, s1, τ, q.1, q.2, R1, S0.mono b1 t1, e2, fun xs m2 H2 b2 t2 R2 i2 => ⟨m2, q.2, d1, q.1, d, st', R2, isD_mono b2 t2 _ _ i1, i2, e0, post.mono (b1.trans b2) (t1.trans t2)⟩⟩⟩
      cases d1 with
      | str z => rw [i1.str]; exact rfl
      | loc l =>
        have hm : (false && (M.listAt s1 l).isSome) = true := hm
        rw [Bool.false_and] at hm
        cases hm
      | _ => cases hm
    · cases e0
  | @sli _ a lo hi pa pl ph p2 pos ha hl hh =>
    refine (pe_slice sl_D (A.e c X G a pa ha) (po_ok A G hl) (po_ok A G hh)).imp fun σ H Q h => ?_
    obtain ⟨m, st, τ, d, st', R0, S0, e, post⟩ := h
    have e : (((M.run fns n).ev τ st a).bind fun p => (M.part (M.run fns n) τ p.2 lo).bind fun l => (M.part (M.run fns n) τ l.2 hi).bind fun h => M.sliD h.2 p.1 l.1 h.1) = some (d, st') := e
    obtain ⟨d1, s1, e1, e⟩ := bindD e
    obtain ⟨l, e2, e⟩ := bindO e
    obtain ⟨u, e3, e⟩ := bindO e
    exact ⟨m, st, τ, d1, s1, R0, S0, e1, fun x m1 H1 b1 t1 R1 i1 => ⟨m1, s1, τ, l.1, l.2, R1, S0.mono b1 t1, e2, fun m2 H2 b2 t2 R2 => ⟨m2, l.2, τ, u.1, u.2, R2, S0.mono (b1.trans b2) (t1.trans t2), e3, fun m3 H3 b3 t3 R3 =>
      ⟨m3, u.2, d1, d, st', R3, isD_mono (b2.trans b3) (t2.trans t3) _ _ i1, e, post.mono (b1.trans (b2.trans b3)) (t1.trans (t2.trans t3))⟩⟩⟩⟩
  | @comp _ t it elt sr tg iter pelt scope pos N hk hcell hfree hloc hlen hsrc hnd hs hi ht htl he =>
    have S := comp_scope G hk hcell hfree hloc hlen hsrc
    exact (pe_comp (tt := fun _ H Q => Q true H) G.calm S (iter_ok A G hi) (fun C fp s H => target_ok (G.inner hk hnd) ht fun i hi' x hx => .inr (tlOk_of htl i hi' x hx)) (fun C fp s H => test_nil) (fun C fp s H => A.e _ _ (G.inner hk hnd) elt pelt he) (hs X.env)).imp fun σ H Q h =>
      tD_comp (fun _ _ _ q => q) h
  | @compIf _ t it q elt sr tg iter pq pelt scope pos N hk hcell hfree hloc hlen hsrc hnd hs hi ht htl hq he =>
    have S := comp_scope G hk hcell hfree hloc hlen hsrc
    exact (pe_comp G.calm S (iter_ok A G hi) (fun C fp s H => target_ok (G.inner hk hnd) ht fun i hi' x hx => .inr (tlOk_of htl i hi' x hx)) (fun C fp s H => test_one (A.t _ _ (G.inner hk hnd) q pq hq)) (fun C fp s H => A.e _ _ (G.inner hk hnd) elt pelt he) (hs X.env)).imp fun σ H Q h =>
      tD_comp (fun _ _ _ q => q) h
end
end MS
end
section
set_option linter.all false
set_option Elab.async false
set_option maxRecDepth 100000
set_option maxHeartbeats 4000000
namespace MS
open PySem PySem.Spec PyProof.Rows L2
open M (D Cell Store Sl E S T Src Fn Out R)
section
variable {fns : List Fn} {n : Nat} {c : Ctx} {X : Cx}
/-! ### tests -/
theorem tt_val {K : PySem.W.Frag} {r : R} {e : E} {σ : L2.St} {H : Hp} {Q : Bool → Hp → Prop} (hr : ∀ τ st, M.stepTst r τ st e = (r.ev τ st e).bind fun p => (M.truth p.2 p.1).map fun k => (k, p.2))
    (h : tTs K (fun τ st => M.stepTst r τ st e) σ H Q) : (tD K fun τ st => r.ev τ st e) σ H fun x H' => ∃ k, TruV K x H' k ∧ Q k H' := by
  obtain ⟨m, st, τ, d, st', R0, S0, e0, q⟩ := h
  have e0 := (hr τ st).symm.trans e0
  obtain ⟨d1, s1, e1, e0⟩ := bindD e0
  obtain ⟨k, e2, e3⟩ := mapD e0
  cases e3
  exact ⟨m, st, τ, d1, s1, R0, S0, e1, fun x m1 H1 b1 t1 R1 i1 => ⟨_, truV_of R1 i1 e2, q m1 H1 b1 t1 R1⟩⟩
theorem tt_and {K : PySem.W.Frag} {r : R} {a b : E} {σ : L2.St} {H : Hp} {Q : Bool → Hp → Prop} (h : tTs K (fun τ st => M.stepTst r τ st (.and a b)) σ H Q) : tAnd (tTs K fun τ st => r.tst τ st a) (tTs K fun τ st => r.tst τ st b) σ H Q := by
  obtain ⟨m, st, τ, d, st', R0, S0, e0, q⟩ := h
  have e0 : ((r.tst τ st a).bind fun p => if p.1 then r.tst τ p.2 b else some (false, p.2)) = some (d, st') := e0
  obtain ⟨p, e1, e0⟩ := bindO e0
  refine ⟨m, st, τ, p.1, p.2, R0, S0, e1, fun m1 H1 b1 t1 R1 => ?_⟩
  cases hp : p.1 with
  | true =>
    rw [hp, if_pos rfl] at e0
    rw [if_pos rfl]
    exact ⟨m1, p.2, τ, d, st', R1, S0.mono b1 t1, e0, fun m2 H2 b2 t2 R2 => q m2 H2 (b1.trans b2) (t1.trans t2) R2⟩
  | false =>
    rw [hp, if_neg Bool.false_ne_true] at e0
    cases e0
    rw [if_neg Bool.false_ne_true]
    exact q m1 H1 b1 t1 R1
theorem tt_or {K : PySem.W.Frag} {r : R} {a b : E} {σ : L2.St} {H : Hp} {Q : Bool → Hp → Prop} (h : tTs K (fun τ st => M.stepTst r τ st (.or a b)) σ H Q) : tOr (tTs K fun τ st => r.tst τ st a) (tTs K fun τ st => r.tst τ st b) σ H Q := by
  obtain ⟨m, st, τ, d, st', R0, S0, e0, q⟩ := h
  have e0 : ((r.tst τ st a).bind fun p => if p.1 then some (true, p.2) else r.tst τ p.2 b) = some (d, st') := e0
  obtain ⟨p, e1, e0⟩ := bindO e0
  refine ⟨m, st, τ, p.1, p.2, R0, S0, e1, fun m1 H1 b1 t1 R1 => ?_⟩
  cases hp : p.1 with
  | false =>
    rw [hp, if_neg Bool.false_ne_true] at e0
    rw [if_neg Bool.false_ne_true]
    exact ⟨m1, p.2, τ, d, st', R1, S0.mono b1 t1, e0, fun m2 H2 b2 t2 R2 => q m2 H2 (b1.trans b2) (t1.trans t2) R2⟩
  | true =>
    rw [hp, if_pos rfl] at e0
    cases e0
    rw [if_pos rfl]
    exact q m1 H1 b1 t1 R1
theorem w_ok (A : AllOk fns n) (G' : Good fns (n + 1) c X) {e : E} {op : BoolOp} {ps : List Expr} {pos : Pos} (h : CkE c e (.BoolOp op ps pos)) : PW X (.BoolOp op ps pos) (tTs X.K fun τ st => M.stepTst (M.run fns n) τ st e) := by
  have G := G'.low
  cases h with
  | @and2 _ a b pa pb pos ha hb => exact (pw_and (A.t c X G a pa ha) (pw_and1 (A.t c X G b pb hb))).imp fun σ H Q h => tt_and h
  | @andN _ a b pa pb pd r pos ha hb => exact (pw_and (A.t c X G a pa ha) (A.w c X G b _ _ _ hb)).imp fun σ H Q h => tt_and h
  | @or2 _ a b pa pb pos ha hb => exact (pw_or (A.t c X G a pa ha) (pw_or1 (A.t c X G b pb hb))).imp fun σ H Q h => tt_or h
  | @orN _ a b pa pb pd r pos ha hb => exact (pw_or (A.t c X G a pa ha) (A.w c X G b _ _ _ hb)).imp fun σ H Q h => tt_or h
theorem t_ok (A : AllOk fns n) (G' : Good fns (n + 1) c X) {e : E} {p : Expr} (h : CkE c e p) : PT X p (tTs X.K fun τ st => M.stepTst (M.run fns n) τ st e) := by
  have G := G'.low
  have hu : X.A.units + 64 < cLine := G'.room.units
  have hA := A.e c X G e p h
  cases h with
  | @not _ a pa pos ha =>
    refine (pt_not (A.t c X G a pa ha)).imp fun σ H Q h => ?_
    obtain ⟨m, st, τ, d, st', R0, S0, e0, q⟩ := h
    obtain ⟨p, e1, e2⟩ := mapD e0
    cases e2
    exact ⟨m, st, τ, p.1, p.2, R0, S0, e1, fun m1 H1 b1 t1 R1 => q m1 H1 b1 t1 R1⟩
  | and2 ha hb => exact (w_ok A G' (.and2 ha hb)).pt
  | andN ha hb => exact (w_ok A G' (.andN ha hb)).pt
  | or2 ha hb => exact (w_ok A G' (.or2 ha hb)).pt
  | orN ha hb => exact (w_ok A G' (.orN ha hb)).pt
  | @cmp _ op a b pa pb pos ha hb hm =>
    refine (pt_cmpR (op_cmpD hu op) (A.e c X G a pa ha) (A.e c X G b pb hb) hm).imp fun σ H Q h => ?_
    obtain ⟨m, st, τ, d, st', R0, S0, e0, q⟩ := h
    obtain ⟨d1, s1, e1, e0⟩ := bindD e0
    obtain ⟨d2, s2, e2, e0⟩ := bindD e0
    obtain ⟨k, e3, e4⟩ := mapD e0
    cases e4
    exact ⟨m, st, τ, d1, s1, R0, S0, e1, fun x m1 H1 b1 t1 R1 i1 => ⟨m1, s1, τ, d2, s2, R1, S0.mono b1 t1, e2, fun y m2 H2 b2 t2 R2 i2 =>
      ⟨m2, s2, d1, d2, .bl d, s2, R2, isD_mono b2 t2 _ _ i1, i2, by show Option.map _ (M.cmpD s2 op d1 d2) = _; rw [show M.cmpD s2 op d1 d2 = some d from e3]; rfl, fun z m3 H3 b3 t3 R3 i3 => ⟨d, i3.bl, q m3 H3 (b1.trans (b2.trans b3)) (t1.trans (t2.trans t3)) R3⟩⟩⟩⟩
  | @cmp2 _ op op' a b d pa pb pd pos ha hb hd hm =>
    refine (pt_chain (op_cmpD hu op) (op_cmpD hu op') (A.e c X G a pa ha) (A.e c X G b pb hb) (A.e c X G d pd hd) hm).imp fun σ H Q h => ?_
    obtain ⟨m, st, τ, dd, st', R0, S0, e, q⟩ := h
    obtain ⟨d1, s1, e1, e⟩ := bindD e
    obtain ⟨d2, s2, e2, e⟩ := bindD e
    obtain ⟨k, e3, e⟩ := bindO e
    refine ⟨m, st, τ, d1, s1, R0, S0, e1, fun x m1 H1 b1 t1 R1 i1 => ⟨m1, s1, τ, d2, s2, R1, S0.mono b1 t1, e2, fun y m2 H2 b2 t2 R2 i2 =>
      ⟨m2, s2, d1, d2, .bl k, s2, R2, isD_mono b2 t2 _ _ i1, i2, by show Option.map _ (M.cmpD s2 op d1 d2) = _; rw [show M.cmpD s2 op d1 d2 = some k from e3]; rfl, fun z m3 H3 b3 t3 R3 i3 => ⟨k, i3.bl, ?_⟩⟩⟩⟩
    cases k with
    | true =>
      rw [if_pos rfl] at e ⊢
      obtain ⟨d3, s3, e4, e⟩ := bindD e
      obtain ⟨k', e5, e6⟩ := mapD e
      cases e6
      exact ⟨m3, s2, τ, d3, s3, R3, S0.mono (b1.trans (b2.trans b3)) (t1.trans (t2.trans t3)), e4, fun y' m4 H4 b4 t4 R4 i4 =>
        ⟨m4, s3, d2, d3, .bl dd, s3, R4, isD_mono (b3.trans b4) (t3.trans t4) _ _ i2, i4, by show Option.map _ (M.cmpD s3 op' d2 d3) = _; rw [show M.cmpD s3 op' d2 d3 = some dd from e5]; rfl,
          fun z m5 H5 b5 t5 R5 i5 => ⟨dd, i5.bl, q m5 H5 (b1.trans (b2.trans (b3.trans (b4.trans b5)))) (t1.trans (t2.trans (t3.trans (t4.trans t5)))) R5⟩⟩⟩
    | false =>
      rw [if_neg Bool.false_ne_true] at e ⊢
      cases e
      exact ⟨false, rfl, q m3 H3 (b1.trans (b2.trans b3)) (t1.trans (t2.trans t3)) R3⟩
  | ite hq ha hb => exact fun pins s σ H Q I q => by obtain ⟨m, st, τ, d, st', _, _, z, _⟩ := q; cases z
  | _ => exact (pt_truth hA fun _ => rfl).imp fun σ H Q h => tt_val (fun _ _ => rfl) h

/-! ### statements -/
theorem S_nx {K : PySem.W.Frag} {m : List Addr} {H : Hp} {τ : Sl} {st' : Store} {Dn : Ends} {σ : L2.St} (p : PostO K m H (.nx τ) st' Dn) {m' : List Addr} {H' : Hp} (b : Sub m m') (t : Tr H H') (R0 : Rel K m' st' H') (S0 : SlotOk K m' H' τ σ) : Dn.nx σ H' := p m' H' b t R0 σ S0
theorem set_ok {K : PySem.W.Frag} {r : R} {i : Nat} {e : E} {te : TE} {Dn : Ends} {σ : L2.St} {H : Hp} (hte : ∀ Q, (tD K fun τ st => r.ev τ st e) σ H Q → te σ H Q) (h : tS K (fun τ st => M.stepEx r τ st (.set (.var i) e)) Dn σ H) : tAsg te (gName i) Dn σ H := by
  obtain ⟨m, st, τ, o, st', R0, S0, e0, q⟩ := h
  obtain ⟨d1, s1, e1, e0⟩ := bindD e0
  obtain ⟨τ', e2, e3⟩ := mapD e0
  cases e3
  have e2 : (if i < τ.length then some (τ.set i (some d1)) else none) = some τ' := e2
  split at e2
  · cases e2
    exact hte _ ⟨m, st, τ, d1, s1, R0, S0, e1, fun x m1 H1 b1 t1 R1 i1 => S_nx q b1 t1 R1 ((S0.mono b1 t1).put i1)⟩
  · cases e2
theorem s1_ok (IH : ∀ j, j ≤ n → AllOk fns j) (G : Good fns n c X) (hf : ∀ x, X.fn x = true) {s : S} {p : Stmt} (h : CkS c s p) : PS X p (tS X.K fun τ st => M.stepEx (M.run fns n) τ st s) := by
  have A := IH n (Nat.le_refl n)
  have hN : X.N.Nodup := by rw [G.N]; exact G.nd
  have loc : ∀ {x : Str}, (c.sc.names.lookup x = some .local ∨ c.sc.names.lookup x = some .cell) → Loc X.env.scope x := fun {x} h => by show X.env.scope.names.lookup x = _ ∨ _ = _; rw [G.sc]; exact h
  cases h with
  | @set i e x p pos pos' hi hl he hs => exact (ps_set hN (var_of G hi) (loc hl) (A.e c X G e p he) (hs X.env) (.inl (hf x))).imp fun D σ H h => set_ok (fun _ q => q) h
  | @setC i e x p pos pos' hi hl he hc hs =>
    rcases hs X.env G.sc with z | z
    · exact (ps_set hN (var_of G hi) (loc hl) (A.e c X G e p he) z (.inl (hf x))).imp fun D σ H h => set_ok (fun _ q => q) h
    · cases n with
      | zero => exact fun pins s σ H Dn I q => by obtain ⟨m, st, τ, d, st', _, _, w, _⟩ := q; cases w
      | succ n =>
        have A1 := IH n (Nat.le_succ n)
        have G1 := G.low
        obtain ⟨elt, gs, sc, q, rfl⟩ := hc
        cases he with
        | @comp _ t it elt' sr tg iter pelt scope cpos N hk hcell hfree hloc hlen hsrc hnd hfs hit ht htl he =>
          have SC := comp_scope G1 hk hcell hfree hloc hlen hsrc
          exact (ps_setComp (tt := fun _ H Q => Q true H) G1.calm SC (iter_ok A1 G1 hit) (fun C fp s H => target_ok (G1.inner hk hnd) ht fun i hi' x hx => .inr (tlOk_of htl i hi' x hx)) (fun C fp s H => test_nil) (fun C fp s H => A1.e _ _ (G1.inner hk hnd) elt' _ he) (hfs X.env) hN (var_of G hi) (loc hl) (.inl (hf x)) z).imp fun D σ H h =>
            set_ok (fun Q q => tD_comp (fun _ _ _ q => q) q) h
        | @compIf _ t it cq elt' sr tg iter pq pelt scope cpos N hk hcell hfree hloc hlen hsrc hnd hfs hit ht htl hq he =>
          have SC := comp_scope G1 hk hcell hfree hloc hlen hsrc
          exact (ps_setComp G1.calm SC (iter_ok A1 G1 hit) (fun C fp s H => target_ok (G1.inner hk hnd) ht fun i hi' x hx => .inr (tlOk_of htl i hi' x hx)) (fun C fp s H => test_one (A1.t _ _ (G1.inner hk hnd) cq pq hq)) (fun C fp s H => A1.e _ _ (G1.inner hk hnd) elt' _ he) (hfs X.env) hN (var_of G hi) (loc hl) (.inl (hf x)) z).imp fun D σ H h =>
            set_ok (fun Q q => tD_comp (fun _ _ _ q => q) q) h
  | @setT is e es k p pos tpos ht he hs hw h1 =>
    refine (ps_asg (A.e c X G e p he) (target_ok (t := .tup is) G (.tup ht) fun i _ x _ => .inl (hf x)) (hs X.env) (hw X.env) (h1 X.env)).imp fun Dn σ H h => ?_
    obtain ⟨m, st, τ, o, st', R0, S0, e0, q⟩ := h
    obtain ⟨d1, s1, e1, e0⟩ := bindD e0
    obtain ⟨τ', e2, e3⟩ := mapD e0
    cases e3
    exact ⟨m, st, τ, d1, s1, R0, S0, e1, fun x m1 H1 b1 t1 R1 i1 => gT_of i1 (S0.mono b1 t1) e2 fun σ' S1 => S_nx q b1 t1 R1 S1⟩
  | @whil q body pq pb pos hq hb =>
    refine (ps_while (by rw [G.xe]; exact PassesOwn.never) (A.t c X G q pq hq) (A.s c X G hf body pb hb)).imp fun Dn σ H h => ?_
    obtain ⟨m, st, τ, o, st', R0, S0, e0, post⟩ := h
    have e0 : M.loopW (fun τ st => (M.run fns n).tst τ st q) (fun τ st => (M.run fns n).ex τ st body) M.lim τ st = some (o, st') := e0
    refine ⟨fun k σ' H' => ∃ m2 st2 τ2, Sub m m2 ∧ Tr H H' ∧ Rel X.K m2 st2 H' ∧ SlotOk X.K m2 H' τ2 σ' ∧ M.loopW (fun τ st => (M.run fns n).tst τ st q) (fun τ st => (M.run fns n).ex τ st body) k τ2 st2 = some (o, st'),
      ⟨_, m, st, τ, Sub.refl _, Tr.refl _, R0, S0, e0⟩, ?_⟩
    rintro k σ' H' ⟨m2, st2, τ2, b2, t2, R2, S2, e4⟩
    cases k with
    | zero => cases e4
    | succ k =>
      have e4 : (((M.run fns n).tst τ2 st2 q).bind fun b => if b.1 then ((M.run fns n).ex τ2 b.2 body).bind fun p => match p.1 with
          | .nx τ' => M.loopW (fun τ st => (M.run fns n).tst τ st q) (fun τ st => (M.run fns n).ex τ st body) k τ' p.2
          | .ct τ' => M.loopW (fun τ st => (M.run fns n).tst τ st q) (fun τ st => (M.run fns n).ex τ st body) k τ' p.2
          | .bk τ' => some (.nx τ', p.2)
          | .rt v => some (.rt v, p.2)
        else some (.nx τ2, b.2)) = some (o, st') := e4
      obtain ⟨b, e5, e4⟩ := bindO e4
      refine ⟨m2, st2, τ2, b.1, b.2, R2, S2, e5, fun m3 H3 b3 t3 R3 => ?_⟩
      cases hb : b.1 with
      | false =>
        rw [hb, if_neg Bool.false_ne_true] at e4
        cases e4
        rw [if_neg Bool.false_ne_true]
        exact S_nx post (b2.trans b3) (t2.trans t3) R3 (S2.mono b3 t3)
      | true =>
        rw [hb, if_pos rfl] at e4
        rw [if_pos rfl]
        obtain ⟨z, e6, e4⟩ := bindO e4
        refine ⟨fun σ4 H4 => ∃ m4 st4 τ4, Sub m m4 ∧ Tr H H4 ∧ Rel X.K m4 st4 H4 ∧ SlotOk X.K m4 H4 τ4 σ4 ∧ M.loopW (fun τ st => (M.run fns n).tst τ st q) (fun τ st => (M.run fns n).ex τ st body) k τ4 st4 = some (o, st'), fun σ4 H4 w4 => ⟨k, Nat.lt_succ_self k, w4⟩, ?_⟩
        refine ⟨m3, b.2, τ2, z.1, z.2, R3, S2.mono b3 t3, e6, fun m4 H4 b4 t4 R4 => ?_⟩
        cases hz : z.1 with
        | nx τ4 =>
          rw [hz] at e4
          exact fun σ4 S4 => ⟨m4, z.2, τ4, b2.trans (b3.trans b4), t2.trans (t3.trans t4), R4, S4, e4⟩
        | ct τ4 =>
          rw [hz] at e4
          exact fun σ4 S4 => ⟨m4, z.2, τ4, b2.trans (b3.trans b4), t2.trans (t3.trans t4), R4, S4, e4⟩
        | bk τ4 =>
          rw [hz] at e4
          cases e4
          exact fun σ4 S4 => S_nx post (b2.trans (b3.trans b4)) (t2.trans (t3.trans t4)) R4 S4
        | rt v =>
          rw [hz] at e4
          cases e4
          exact fun w iw => post m4 H4 (b2.trans (b3.trans b4)) (t2.trans (t3.trans t4)) R4 w iw
  | @aug i op e x p pos pos' hi hl he =>
    refine (ps_aug hN (var_of G hi) (loc hl) (A.e c X G e p he) (ip_D op) (.inl (hf x))).imp fun Dn σ H h => ?_
    obtain ⟨m, st, τ, o, st', R0, S0, e0, q⟩ := h
    have e0 : (match τ[i]? with
      | some (some x) => ((M.run fns n).ev τ st e).bind fun p => (M.augD p.2 op x p.1).map fun z => (Out.nx (τ.set i (some z)), p.2)
      | _ => none) = some (o, st') := e0
    split at e0
    · rename_i d0 hd0
      obtain ⟨v0, hv0, iv0⟩ := S0.at_ i d0 hd0
      obtain ⟨d1, s1, e1, e0⟩ := bindD e0
      obtain ⟨z, e2, e3⟩ := mapD e0
      cases e3
      refine ⟨v0, hv0, m, st, τ, d1, s1, R0, S0, e1, fun y m1 H1 b1 t1 R1 i1 => ⟨m1, s1, d0, d1, z, R1, isD_mono b1 t1 _ _ iv0, i1, e2, fun w iw => ?_⟩⟩
      exact S_nx q b1 t1 R1 ((S0.mono b1 t1).put iw)
    · cases e0
  | @setIx a i e pa pi pe tpos pos ha hi he hs hw h1 hA =>
    refine (ps_asg (A.e c X G e pe he) (pg_sub (A.e c X G a pa ha) (A.e c X G i pi hi) set_D (hA X.env)) (hs X.env) (hw X.env) (h1 X.env)).imp fun Dn σ H h => ?_
    obtain ⟨m, st, τ, o, st', R0, S0, e0, q⟩ := h
    obtain ⟨d1, s1, e1, e0⟩ := bindD e0
    obtain ⟨d2, s2, e2, e0⟩ := bindD e0
    obtain ⟨d3, s3, e3, e0⟩ := bindD e0
    obtain ⟨s4, e4, e5⟩ := mapD e0
    cases e5
    exact ⟨m, st, τ, d1, s1, R0, S0, e1, fun x m1 H1 b1 t1 R1 i1 => ⟨m1, s1, τ, d2, s2, R1, S0.mono b1 t1, e2, fun y m2 H2 b2 t2 R2 i2 => ⟨m2, s2, τ, d3, s3, R2, S0.mono (b1.trans b2) (t1.trans t2), e3, fun z m3 H3 b3 t3 R3 i3 =>
      ⟨m3, s3, d2, d3, d1, _, R3, isD_mono b3 t3 _ _ i2, i3, isD_mono (b2.trans b3) (t2.trans t3) _ _ i1, e4, fun m4 H4 b4 t4 R4 => S_nx q (b1.trans (b2.trans (b3.trans b4))) (t1.trans (t2.trans (t3.trans t4))) R4 (S0.mono (b1.trans (b2.trans (b3.trans b4))) (t1.trans (t2.trans (t3.trans t4))))⟩⟩⟩⟩
  | @expr e p pos he hs =>
    refine (ps_expr (A.e c X G e p he) (hs X.env)).imp fun Dn σ H h => ?_
    obtain ⟨m, st, τ, o, st', R0, S0, e0, q⟩ := h
    obtain ⟨p, e1, e2⟩ := mapD e0
    cases e2
    exact ⟨m, st, τ, p.1, p.2, R0, S0, e1, fun x m1 H1 b1 t1 R1 i1 => S_nx q b1 t1 R1 (S0.mono b1 t1)⟩
  | @ret e p pos he =>
    refine (ps_ret (A.e c X G e p he)).imp fun Dn σ H h => ?_
    obtain ⟨m, st, τ, o, st', R0, S0, e0, q⟩ := h
    obtain ⟨p, e1, e2⟩ := mapD e0
    cases e2
    exact ⟨m, st, τ, p.1, p.2, R0, S0, e1, fun x m1 H1 b1 t1 R1 i1 => q m1 H1 b1 t1 R1 x i1⟩
  | retN =>
    refine ps_retN.imp fun Dn σ H h => ?_
    obtain ⟨m, st, τ, o, st', R0, S0, e0, q⟩ := h
    cases e0
    exact q m H (Sub.refl m) (Tr.refl H) R0 _ mkNon
  | @ite q a b pq pa pb pos hq ha hb =>
    refine (ps_if (A.t c X G q pq hq) (A.s c X G hf a pa ha) (A.s c X G hf b pb hb)).imp fun Dn σ H h => ?_
    obtain ⟨m, st, τ, o, st', R0, S0, e0, post⟩ := h
    obtain ⟨p, e1, e0⟩ := bindO e0
    refine ⟨m, st, τ, p.1, p.2, R0, S0, e1, fun m1 H1 b1 t1 R1 => ?_⟩
    cases hp : p.1 with
    | true =>
      rw [hp, if_pos rfl] at e0
      rw [if_pos rfl]
      exact ⟨m1, p.2, τ, o, st', R1, S0.mono b1 t1, e0, post.mono b1 t1⟩
    | false =>
      rw [hp, if_neg Bool.false_ne_true] at e0
      rw [if_neg Bool.false_ne_true]
      exact ⟨m1, p.2, τ, o, st', R1, S0.mono b1 t1, e0, post.mono b1 t1⟩
  | @forr t it body tg iter pb pos ht hi hs hb =>
      refine (ps_for (by rw [G.xe]; exact PassesOwn.never) G.calm (iter_ok A G hi) (target_ok G ht fun i _ x _ => .inl (hf x)) (A.s c X G hf body pb hb) (hs X.env)).imp fun Dn σ H h => ?_
      obtain ⟨m, st, τ, o, st', R0, S0, e0, post⟩ := h
      obtain ⟨p, e1, e0⟩ := bindO e0
      refine ⟨m, st, τ, p.1, p.2, R0, S0, e1, fun m1 H1 J b1 t1 R1 hJ => ?_⟩
      refine ⟨fun j k σ' H' => ∃ m2 st2 τ2, Sub m1 m2 ∧ Tr H1 H' ∧ Rel X.K m2 st2 H' ∧ SlotOk X.K m2 H' τ2 σ' ∧ M.loop p.1 (fun τ st d => (M.setT t d τ).bind fun τ' => (M.run fns n).ex τ' st body) k j τ2 st2 = some (o, st'),
        ⟨_, m1, p.2, τ, Sub.refl _, Tr.refl _, R1, S0.mono b1 t1, e0⟩, ?_⟩
      rintro j k σ' H' ⟨m2, st2, τ2, b2, t2, R2, S2, e4⟩
      cases k with
      | zero => cases e4
      | succ k =>
        have e4 : (p.1.at st2 j).bind (fun o => match o with
          | none => some (Out.nx τ2, st2)
          | some d => ((M.setT t d τ2).bind fun τ' => (M.run fns n).ex τ' st2 body).bind fun z => match z.1 with
            | .nx τ' => M.loop p.1 (fun τ st d => (M.setT t d τ).bind fun τ' => (M.run fns n).ex τ' st body) k (j + 1) τ' z.2
            | .ct τ' => M.loop p.1 (fun τ st d => (M.setT t d τ).bind fun τ' => (M.run fns n).ex τ' st body) k (j + 1) τ' z.2
            | .bk τ' => some (.nx τ', z.2)
            | .rt v => some (.rt v, z.2)) = some (o, st') := e4
        obtain ⟨oo, e5, e4⟩ := bindO e4
        cases oo with
        | none =>
          cases e4
          exact .inl ⟨(hJ.mono b2 t2).done R2 e5, S_nx post (b1.trans b2) (t1.trans t2) R2 S2⟩
        | some d =>
          obtain ⟨hgo, hy⟩ := (hJ.mono b2 t2).next R2 e5
          dsimp only at e4
          obtain ⟨z, e6, e4⟩ := bindO e4
          obtain ⟨τ3, e7, e6⟩ := bindO e6
          refine .inr ⟨hgo, fun σ3 H3 => ∃ m3 st3 τ3, Sub m1 m3 ∧ Tr H1 H3 ∧ Rel X.K m3 st3 H3 ∧ SlotOk X.K m3 H3 τ3 σ3 ∧ M.loop p.1 (fun τ st d => (M.setT t d τ).bind fun τ' => (M.run fns n).ex τ' st body) k (j + 1) τ3 st3 = some (o, st'), fun σ3 H3 w3 => ⟨k, Nat.lt_succ_self k, w3⟩, fun x H2 hyl => ?_⟩
          obtain ⟨sm, ix⟩ := hy x H2 hyl
          have t2 := t2.trans (Tr.of_same sm)
          have R2 := R2.same sm
          have S2 := S2.mono (Sub.refl _) (Tr.of_same sm)
          refine gT_of ix S2 e7 fun σ3 S3 => ?_
          refine ⟨m2, st2, _, z.1, z.2, R2, S3, e6, fun m3 H3 b3 t3 R3 => ?_⟩
          cases hz : z.1 with
          | nx τ4 =>
            rw [hz] at e4
            exact fun σ4 S4 => ⟨m3, z.2, τ4, b2.trans b3, t2.trans t3, R3, S4, e4⟩
          | ct τ4 =>
            rw [hz] at e4
            exact fun σ4 S4 => ⟨m3, z.2, τ4, b2.trans b3, t2.trans t3, R3, S4, e4⟩
          | bk τ4 =>
            rw [hz] at e4
            cases e4
            exact fun σ4 S4 => S_nx post (b1.trans (b2.trans b3)) (t1.trans (t2.trans t3)) R3 S4
          | rt v =>
            rw [hz] at e4
            cases e4
            exact fun w iw => post m3 H3 (b1.trans (b2.trans b3)) (t1.trans (t2.trans t3)) R3 w iw
  | brk =>
    refine ps_break.imp fun Dn σ H h => ?_
    obtain ⟨m, st, τ, o, st', R0, S0, e0, q⟩ := h
    cases e0
    exact q m H (Sub.refl m) (Tr.refl H) R0 _ S0
  | cnt =>
    refine ps_continue.imp fun Dn σ H h => ?_
    obtain ⟨m, st, τ, o, st', R0, S0, e0, q⟩ := h
    cases e0
    exact q m H (Sub.refl m) (Tr.refl H) R0 _ S0
  | pass =>
    refine ps_pass.imp fun Dn σ H h => ?_
    obtain ⟨m, st, τ, o, st', R0, S0, e0, q⟩ := h
    cases e0
    exact q m H (Sub.refl m) (Tr.refl H) R0 _ S0
theorem ss_ok (IH : ∀ j, j ≤ n → AllOk fns j) (G : Good fns n c X) (hf : ∀ x, X.fn x = true) : ∀ {ss : List S} {ps : List Stmt}, CkSs c ss ps → PSs X ps (tS X.K fun τ st => M.exs (M.stepEx (M.run fns n)) ss τ st)
  | _, _, .nil => pss_nil.imp fun Dn σ H h => by
    obtain ⟨m, st, τ, o, st', R0, S0, e0, q⟩ := h
    cases e0
    exact q m H (Sub.refl m) (Tr.refl H) R0 _ S0
  | _, _, .doc t => (pss_cons ps_doc (ss_ok IH G hf t)).imp fun Dn σ H h => h
  | _, _, .cons (s := s) (ss := ss) h t => (pss_cons (s1_ok IH G hf h) (ss_ok IH G hf t)).imp fun Dn σ H hq => by
    obtain ⟨m, st, τ, o, st', R0, S0, e0, q⟩ := hq
    obtain ⟨p, e1, e0⟩ := bindO e0
    refine ⟨m, st, τ, p.1, p.2, R0, S0, e1, fun m1 H1 b1 t1 R1 => ?_⟩
    cases hp : p.1 with
    | nx τ1 =>
      rw [hp] at e0
      exact fun σ1 S1 => ⟨m1, p.2, τ1, o, st', R1, S1, e0, q.mono b1 t1⟩
    | rt d =>
      rw [hp] at e0
      cases e0
      exact q m1 H1 b1 t1 R1
    | bk d =>
      rw [hp] at e0
      cases e0
      exact q m1 H1 b1 t1 R1
    | ct d =>
      rw [hp] at e0
      cases e0
      exact q m1 H1 b1 t1 R1
end
theorem allOk (fns : List Fn) : ∀ n j, j ≤ n → AllOk fns j := by
  intro n
  induction n with
  | zero => intro j h; rw [Nat.le_zero.mp h]; exact allOk_zero fns
  | succ n ih =>
    intro j h
    rcases Nat.lt_or_ge j (n + 1) with z | z
    · exact ih j (by omega)
    · have e : j = n + 1 := by omega
      subst e
      have A := ih n (Nat.le_refl n)
      exact ⟨fun c X G e p h => e_ok A G h, fun c X G e p h => t_ok A G h, fun c X G e op ps pos h => w_ok A G h, fun c X G hf ss ps h => ss_ok ih G.low hf h⟩

/-! ### the functions of a text -/
structure FText (K : PySem.W.Frag) (mg : Str → Option Value) (fns : List Fn) (names : List Str) (glo : List (Str × D)) (f : Nat) (x : Str) : Prop where
  ex : ∃ (fa : Addr) (fd : FuncData) (st : Stmt) (N ps : List Str) (F : Fn), fns[f]? = some F ∧ Fun K x x st fa fd ∧ mg x = some (.ref fa) ∧ Binds K fd ps [] ∧ FnScope N ps (defScope st) ∧ CkSs ⟨N, defScope st, names, glo⟩ F.body (defBody st) ∧ F.np = ps.length ∧ F.nl = N.length
theorem fun_ok {P : Program} {w : World} {K : PySem.W.Frag} {mg : Str → Option Value} {base : Heap} {fns : List Fn} {names : List Str} {glo : List (Str × D)} {n f : Nat} {x : Str} {fa : Addr} {fd : FuncData} {st : Stmt} {N ps : List Str} {F : Fn} (ih : ∀ j, j < n → FTab P w K mg base fns names j) (Mg : Mo K mg glo)
    (hF : fns[f]? = some F) (hfun : Fun K x x st fa fd) (hsc : FnScope N ps (defScope st)) (hck : CkSs ⟨N, defScope st, names, glo⟩ F.body (defBody st)) (hnp : F.np = ps.length) (hnl : F.nl = N.length) : FnOk P w K mg base CX0 (n + 1) fa fd ps (spN K fns (n + 1) f) := by
  have unf : ∀ {ds : List D} {st0 st' : Store} {d : D}, (M.run fns (n + 1)).call f ds st0 = some (d, st') → ds.length = F.np ∧ ((M.run fns n).ex (ds.map some ++ List.replicate (F.nl - ds.length) none) st0 F.body).bind (fun p => match p.1 with
      | .rt d => some (d, p.2)
      | .nx _ => some (D.non, p.2)
      | _ => none) = some (d, st') := fun {ds st0 st' d} e => by
    have e : M.stepCall fns (M.run fns n) f ds st0 = some (d, st') := e
    unfold M.stepCall at e
    rw [hF] at e
    dsimp only at e
    split at e
    · rename_i hl
      exact ⟨hl, e⟩
    · cases e
  refine hfun.ok hsc (fun vs H Q E h => ?_) (fun cdv A outer s H vs Q E hr h => ?_)
  · obtain ⟨m, st0, ds, d, st', _, ix, e, _⟩ := h
    rw [← ix.length, (unf e).1, hnp]
  · obtain ⟨m, st0, ds, d, st', R0, ix, e, q⟩ := h
    obtain ⟨hl, e⟩ := unf e
    obtain ⟨p, e1, e2⟩ := bindO e
    have G : Good fns n ⟨N, defScope st, names, glo⟩ (cxOf CX0 P w K mg base N x (defScope st) fa cdv A outer s H E).nox := ⟨hr, rfl, rfl, rfl, hsc.nd, hsc.kind, ih, Mg, rfl⟩
    refine ⟨_, (allOk fns n n (Nat.le_refl n)).s _ _ G (fun _ => rfl) F.body (defBody st) hck, ?_⟩
    refine ⟨m, st0, ds.map some ++ List.replicate (F.nl - ds.length) none, p.1, p.2, R0, ⟨?_, fun i d0 hi => ?_⟩, e1, fun m1 H1 b1 t1 R1 => ?_⟩
    · unfold L2.start
      rw [List.length_append, List.length_append, List.length_map, List.length_map, List.length_replicate, List.length_replicate, hnl, ix.length]
    · unfold L2.start
      by_cases hlt : i < ds.length
      · rw [List.getElem?_append_left (by simpa using hlt), List.getElem?_map] at hi
        have e3 : ds[i]? = some d0 := by
          cases z : ds[i]? with
          | none => rw [z] at hi; cases hi
          | some y => rw [z] at hi; cases hi; rfl
        obtain ⟨v, e4, iv⟩ := ix.get e3
        refine ⟨v, ?_, iv⟩
        rw [List.getElem?_append_left (by rw [List.length_map, ← ix.length]; exact hlt), List.getElem?_map, e4]
        rfl
      · rw [List.getElem?_append_right (by simpa using hlt), List.getElem?_replicate] at hi
        split at hi <;> cases hi
    · cases hp : p.1 with
      | rt d1 =>
        rw [hp] at e2
        cases e2
        exact fun v iv => q v m1 H1 b1 t1 R1 iv
      | nx τ1 =>
        rw [hp] at e2
        cases e2
        exact fun σ1 S1 => q _ m1 H1 b1 t1 R1 mkNon
      | bk d1 => rw [hp] at e2; cases e2
      | ct d1 => rw [hp] at e2; cases e2
theorem tab_ok {P : Program} {w : World} {K : PySem.W.Frag} {mg : Str → Option Value} {base : Heap} {fns : List Fn} {names : List Str} {glo : List (Str × D)} (T : ∀ f x, names[f]? = some x → FText K mg fns names glo f x) (Mg : Mo K mg glo) :
    ∀ n, FTab P w K mg base fns names n := by
  intro n
  induction n using Nat.strongRecOn with
  | ind n ih =>
    intro f x hx
    obtain ⟨fa, fd, st, N, ps, F, hF, hfun, hm, hb, hsc, hck, hnp, hnl⟩ := (T f x hx).ex
    refine ⟨fa, fd, ps, hm, ?_, hfun.kp, hb⟩
    cases n with
    | zero =>
      refine ⟨fun vs H Q E h => ?_, fun A outer s H args us vs Q E hr he hbb hv h => ?_⟩
      · obtain ⟨m, st, ds, d, st', _, _, e, _⟩ := h; cases e
      · obtain ⟨m, st, ds, d, st', _, _, e, _⟩ := h; cases e
    | succ n => exact fun_ok (fun j hj => ih j (by omega)) Mg hF hfun hsc hck hnp hnl

/-! ### the law -/
/-- a list of at most 63 ints is handed in, True comes out -/
def spLaw (K : PySem.W.Frag) : Sp := fun vs H Q _ => ∃ (a : Addr) (ns : List Int), vs = [.ref a] ∧ SqF K H a (ns.map V.int) ∧ ns.length ≤ 63 ∧ ∀ H', Q (.bl true) H'
theorem law_sp {K : PySem.W.Frag} {fns : List Fn} {n f : Nat} (h : ∀ (st : Store) (l : Nat) (ns : List Int), M.listAt st l = some (ns.map D.int) → ns.length ≤ 63 → ∃ st', (M.run fns n).call f [.loc l] st = some (.bl true, st')) (vs : List V) (H : Hp) (Q : VK) (E : XK) (q : spLaw K vs H Q E) : spN K fns n f vs H Q E := by
  obtain ⟨a, ns, rfl, hS, hl, k⟩ := q
  obtain ⟨st', e⟩ := h [.lst false (ns.map D.int)] 0 ns rfl hl
  refine ⟨[a], [.lst false (ns.map D.int)], [.loc 0], .bl true, st', ⟨rfl, fun l l' b c c' e1 e2 e3 e4 w w' => ?_, fun l c b e1 e2 => ?_⟩, mkCons (mkLoc rfl) mkNil, e, fun v m' H' _ _ _ i => ?_⟩
  · cases l with
    | zero => cases e3; cases w
    | succ l => simp at e3
  · cases l with
    | zero => cases e1; cases e2; exact ⟨_, hS, isDs_ints ns⟩
    | succ l => simp at e1
  · rw [i.bl]; exact k H'
theorem only_sq {K : PySem.W.Frag} {H : Hp} {a : Addr} {xs : List V} (hO : Only H) (h : SqL K H a xs) : SqF K H a xs := by
  rcases h with (h | ⟨o, h⟩) | h
  · rcases hO a with z | ⟨ob, ys, z⟩
    · rw [h] at z; cases z
    · rw [h] at z; cases z
  · exact .inl ⟨o, h⟩
  · exact .inr h
theorem walk_law {l : PySem.W.OpenLaw} {k : Nat} {q : Program} {loose : List Str} {XP : (Str → Option Value) → Heap → Prop} {YP : World → Heap → Prop} {d : DefRec} {K : Params → PySem.W.Frag} {x : Str} (hn : l.most = some 63) (hdf : d.params.defaults = []) (hr : Room k callerA)
    (hY : ∀ (w : World) (h : Heap), YP w h → (K w.params).In h)
    (F : ∀ (w : World) (mg : Str → Option Value) (fa : Addr) (h : Heap), (K w.params).In h → h.Ns mainGlobals mg → mg d.name = some (.ref fa) →
      ∃ fd : FuncData, (∀ (s : Shared) (u : Value), BindsTo s fd ⟨[u], []⟩ [(x, u)]) ∧ ∀ base : Heap, (K w.params).In base → base.Ns mainGlobals mg → FnOk l.prog w (K w.params) mg base CX0 k fa fd [x] (spLaw (K w.params))) :
    PySem.W.WalkO q loose XP YP l.row.toRowW d [] (fun f vs => PySem.call f vs) :=
  L2.walk_of (n := 63) (k := k) (x := x) (CX := fun _ => CX0) (sp := fun w => spLaw (K w.params)) hn (by decide) hdf hr hY F (fun _ _ a ns hl hO hS => ⟨a, ns, rfl, only_sq hO hS, hl, fun _ => rfl⟩) fun _ _ _ _ _ z => z
/-! ### the check's helpers -/
def srcOk (sr : List (Option Nat)) (N cN : List Str) (scope : Scope) : Bool := (List.range sr.length).all fun j => match sr[j]? with
  | some (some i) => match N[j]? with
    | some x => cN[i]? == some x && scope.names.lookup x == some .free
    | none => false
  | _ => true
theorem src_of {sr : List (Option Nat)} {N cN : List Str} {scope : Scope} (h : srcOk sr N cN scope = true) : ∀ (j i : Nat), sr[j]? = some (some i) → ∃ x, N[j]? = some x ∧ cN[i]? = some x ∧ scope.names.lookup x = some .free := by
  intro j i e
  unfold srcOk at h
  rw [List.all_eq_true] at h
  have := h j (List.mem_range.mpr (List.getElem?_eq_some_iff.mp e).1)
  rw [e] at this
  dsimp only at this
  split at this
  · rename_i x hx
    rw [Bool.and_eq_true, beq_iff_eq, beq_iff_eq] at this
    exact ⟨x, hx, this.1, this.2⟩
  · cases this
theorem swaps_or (elt : Expr) (gs : List Comprehension) (sc : Scope) (q : Pos) (t : Str) (p : Pos) (line : Nat) (env : Env) : swapsWith (.ListComp elt gs sc q) (some (.Name t p)) line env = pure false ∨ swapsWith (.ListComp elt gs sc q) (some (.Name t p)) line env = pure true := by
  have e : swapsWith (.ListComp elt gs sc q) (some (.Name t p)) line env = pure (env.blockKind == .function && env.kindOf t == some .local && p.line == q.line && !(sc.names.any fun (n, k) => n == t && (k == .local || k == .cell))) := rfl
  rw [e]
  cases (env.blockKind == .function && env.kindOf t == some .local && p.line == q.line && !(sc.names.any fun (n, k) => n == t && (k == .local || k == .cell))) with
  | false => exact .inl rfl
  | true => exact .inr rfl
end MS
end
namespace K06
open PySem PySem.Spec PyProof.Rows L2 MS
open M (D Cell Store Sl E S T Src Fn Out R)
def top (i : Nat) : Stmt := PySem.Challenge.pw_dipright_k06_numbers_read.main.body.getD i (.Pass ⟨0, 0, 0, 0⟩)
def names : List Str := ["all_figures", "number", "_law_draw", "_law_same", "_law_number", "law"]
def glo : List (Str × D) := [("FIGURES", (.str (PySem.Str.ofString "0123456789")))]
abbrev s_all_figures : Stmt := top 2
theorem sc_all_figures : FnScope ["text"] ["text"] (defScope s_all_figures) := ⟨rfl, rfl, rfl, by decide +kernel, rfl, by decide +kernel, by decide +kernel⟩
theorem ck_all_figures : CkSs ⟨["text"], defScope s_all_figures, names, glo⟩ b_all_figures (defBody s_all_figures) :=
    (.cons (.ret (.and2 (.cmp (.var rfl (.inl rfl) rfl rfl) .str rfl) (.bcall rfl (.cons (.comp (N := ["sign"]) rfl (by decide +kernel) (by decide +kernel) (by decide +kernel) rfl (src_of (by decide +kernel)) (by decide +kernel) (fun _ _ => rfl) (.seq (.var rfl (.inl rfl) rfl rfl)) (.var rfl (.inl rfl)) (by decide +kernel) (.cmp (.var rfl (.inl rfl) rfl rfl) (.glo rfl (.head _) rfl) rfl)) .nil))))
    .nil)
abbrev s_number : Stmt := top 3
theorem sc_number : FnScope ["text"] ["text"] (defScope s_number) := ⟨rfl, rfl, rfl, by decide +kernel, rfl, by decide +kernel, by decide +kernel⟩
theorem ck_number : CkSs ⟨["text"], defScope s_number, names, glo⟩ b_number (defBody s_number) :=
    (.cons (.ite (.not (.call rfl rfl rfl (.cons (.var rfl (.inl rfl) rfl rfl) .nil))) (.cons (.ret .non)
    .nil) .nil)
    (.cons (.ite (.and2 (.cmp (.idx (.var rfl (.inl rfl) rfl rfl) .int (fun _ _ => rfl)) .str rfl) (.cmp (.var rfl (.inl rfl) rfl rfl) .str rfl)) (.cons (.ret .non)
    .nil) .nil)
    (.cons (.ret (.bcall rfl (.cons (.var rfl (.inl rfl) rfl rfl) .nil)))
    .nil)))
abbrev s_law_draw : Stmt := top 5
theorem sc_law_draw : FnScope ["_law_script", "_law_k", "_law_j", "_law_many", "_law_cell", "_law_turn", "_law_rest", "_law_step", "_law_one", "_law_two"] ["_law_script", "_law_k", "_law_j", "_law_many"] (defScope s_law_draw) := ⟨rfl, rfl, rfl, by decide +kernel, rfl, by decide +kernel, by decide +kernel⟩
theorem ck_law_draw : CkSs ⟨["_law_script", "_law_k", "_law_j", "_law_many", "_law_cell", "_law_turn", "_law_rest", "_law_step", "_law_one", "_law_two"], defScope s_law_draw, names, glo⟩ b_law_draw (defBody s_law_draw) :=
    (.cons (.set rfl (.inl rfl) .int (fun _ => rfl))
    (.cons (.set rfl (.inl rfl) .int (fun _ => rfl))
    (.cons (.ite (.cmp (.bcall rfl (.cons (.var rfl (.inl rfl) rfl rfl) .nil)) .int rfl) (.cons (.set rfl (.inl rfl) (.idx (.var rfl (.inl rfl) rfl rfl) (.bin (.var rfl (.inl rfl) rfl rfl) (.bcall rfl (.cons (.var rfl (.inl rfl) rfl rfl) .nil))) (fun _ _ => rfl)) (fun _ => rfl))
    (.cons (.set rfl (.inl rfl) (.bin (.var rfl (.inl rfl) rfl rfl) (.bcall rfl (.cons (.var rfl (.inl rfl) rfl rfl) .nil))) (fun _ => rfl))
    .nil)) .nil)
    (.cons (.set rfl (.inl rfl) (.var rfl (.inl rfl) rfl rfl) (fun _ => rfl))
    (.cons (.forr (.var rfl (.inl rfl)) (.rng1 rfl (.var rfl (.inl rfl) rfl rfl)) (fun _ _ => rfl) (.cons (.set rfl (.inl rfl) (.bin (.var rfl (.inl rfl) rfl rfl) (.bin .int .int)) (fun _ => rfl))
    .nil))
    (.cons (.ite (.andN (.cmp (.var rfl (.inl rfl) rfl rfl) .int rfl) (.and2 (.cmp (.var rfl (.inl rfl) rfl rfl) (.bin .int .int) rfl) (.cmp (.var rfl (.inl rfl) rfl rfl) .int rfl))) (.cons (.ret (.bin (.bin (.var rfl (.inl rfl) rfl rfl) (.bin .int .int)) (.var rfl (.inl rfl) rfl rfl)))
    .nil) .nil)
    (.cons (.set rfl (.inl rfl) (.bin (.bin (.bin (.bin (.bin (.var rfl (.inl rfl) rfl rfl) .int) (.bin (.var rfl (.inl rfl) rfl rfl) .int)) (.bin (.var rfl (.inl rfl) rfl rfl) .int)) .int) .int) (fun _ => rfl))
    (.cons (.set rfl (.inl rfl) (.bin (.bin (.bin (.var rfl (.inl rfl) rfl rfl) .int) (.bin (.var rfl (.inl rfl) rfl rfl) .int)) .int) (fun _ => rfl))
    (.cons (.set rfl (.inl rfl) (.bin (.bin (.bin (.var rfl (.inl rfl) rfl rfl) (.bin (.bin (.var rfl (.inl rfl) rfl rfl) .int) .int)) (.var rfl (.inl rfl) rfl rfl)) .int) (fun _ => rfl))
    (.cons (.ret (.bin (.bin (.bin (.bin (.bin (.var rfl (.inl rfl) rfl rfl) .int) (.bin (.var rfl (.inl rfl) rfl rfl) .int)) (.bin (.var rfl (.inl rfl) rfl rfl) .int)) .int) (.var rfl (.inl rfl) rfl rfl)))
    .nil))))))))))
abbrev s_law_same : Stmt := top 6
theorem sc_law_same : FnScope ["_law_found", "_law_due", "_law_like"] ["_law_found", "_law_due"] (defScope s_law_same) := ⟨rfl, rfl, rfl, by decide +kernel, rfl, by decide +kernel, by decide +kernel⟩
theorem ck_law_same : CkSs ⟨["_law_found", "_law_due", "_law_like"], defScope s_law_same, names, glo⟩ b_law_same (defBody s_law_same) :=
    (.cons (.ite (.isiN (by decide) rfl (.cons (by decide) rfl (.cons (by decide) rfl .nil)) (.var rfl (.inr (.inl rfl)) rfl rfl)) (.cons (.ite (.or2 (.not (.isiN (by decide) rfl (.cons (by decide) rfl (.cons (by decide) rfl .nil)) (.var rfl (.inr (.inl rfl)) rfl rfl))) (.cmp (.bcall rfl (.cons (.var rfl (.inr (.inl rfl)) rfl rfl) .nil)) (.bcall rfl (.cons (.var rfl (.inr (.inl rfl)) rfl rfl) .nil)) rfl)) (.cons (.ret .bl)
    .nil) .nil)
    (.cons (.set rfl (.inl rfl) (.bcall rfl (.cons (.comp (N := ["_law_k", "_law_found", "_law_due"]) rfl (by decide +kernel) (by decide +kernel) (by decide +kernel) rfl (src_of (by decide +kernel)) (by decide +kernel) (fun _ _ => rfl) (.rng1 rfl (.bcall rfl (.cons (.var rfl (.inr (.inl rfl)) rfl rfl) .nil))) (.var rfl (.inl rfl)) (by decide +kernel) (.call rfl rfl rfl (.cons (.idx (.var rfl (.inr (.inl rfl)) rfl rfl) (.var rfl (.inl rfl) rfl rfl) (fun _ _ => rfl)) (.cons (.idx (.var rfl (.inr (.inl rfl)) rfl rfl) (.var rfl (.inl rfl) rfl rfl) (fun _ _ => rfl)) .nil)))) .nil)) (fun _ => rfl))
    (.cons (.ret (.and2 (.var rfl (.inl rfl) rfl rfl) (.cmp (.isi1 rfl (by decide) rfl (.var rfl (.inr (.inl rfl)) rfl rfl)) (.isi1 rfl (by decide) rfl (.var rfl (.inr (.inl rfl)) rfl rfl)) rfl)))
    .nil))) .nil)
    (.cons (.set rfl (.inl rfl) (.cmp (.isi1 rfl (by decide) rfl (.var rfl (.inr (.inl rfl)) rfl rfl)) (.isi1 rfl (by decide) rfl (.var rfl (.inr (.inl rfl)) rfl rfl)) rfl) (fun _ => rfl))
    (.cons (.set rfl (.inl rfl) (.and2 (.var rfl (.inl rfl) rfl rfl) (.cmp (.isi1 rfl (by decide) rfl (.var rfl (.inr (.inl rfl)) rfl rfl)) (.isi1 rfl (by decide) rfl (.var rfl (.inr (.inl rfl)) rfl rfl)) rfl)) (fun _ => rfl))
    (.cons (.ret (.andN (.var rfl (.inl rfl) rfl rfl) (.and2 (.cmp (.isi1 rfl (by decide) rfl (.var rfl (.inr (.inl rfl)) rfl rfl)) (.isi1 rfl (by decide) rfl (.var rfl (.inr (.inl rfl)) rfl rfl)) rfl) (.cmp (.var rfl (.inr (.inl rfl)) rfl rfl) (.var rfl (.inr (.inl rfl)) rfl rfl) rfl))))
    .nil))))
abbrev s_law_number : Stmt := top 7
theorem sc_law_number : FnScope ["_law_word", "_law_many", "_law_sign", "_law_at"] ["_law_word"] (defScope s_law_number) := ⟨rfl, rfl, rfl, by decide +kernel, rfl, by decide +kernel, by decide +kernel⟩
theorem ck_law_number : CkSs ⟨["_law_word", "_law_many", "_law_sign", "_law_at"], defScope s_law_number, names, glo⟩ b_law_number (defBody s_law_number) :=
    (.cons (.ite (.or2 (.cmp (.var rfl (.inl rfl) rfl rfl) .str rfl) (.and2 (.cmp (.bcall rfl (.cons (.var rfl (.inl rfl) rfl rfl) .nil)) .int rfl) (.cmp (.idx (.var rfl (.inl rfl) rfl rfl) .int (fun _ _ => rfl)) .str rfl))) (.cons (.ret .non)
    .nil) .nil)
    (.cons (.set rfl (.inl rfl) .int (fun _ => rfl))
    (.cons (.forr (.var rfl (.inl rfl)) (.seq (.var rfl (.inl rfl) rfl rfl)) (fun _ _ => rfl) (.cons (.set rfl (.inl rfl) (.find .str (.var rfl (.inl rfl) rfl rfl) (fun _ => rfl) rfl) (fun _ => rfl))
    (.cons (.ite (.cmp (.var rfl (.inl rfl) rfl rfl) .int rfl) (.cons (.ret .non)
    .nil) .nil)
    (.cons (.set rfl (.inl rfl) (.bin (.bin (.var rfl (.inl rfl) rfl rfl) .int) (.var rfl (.inl rfl) rfl rfl)) (fun _ => rfl))
    .nil))))
    (.cons (.ret (.var rfl (.inl rfl) rfl rfl))
    .nil))))
abbrev s_law : Stmt := top 8
theorem sc_law : FnScope ["_law_script", "_law_size", "_law_odd", "_law_signs", "_law_k", "_law_sign", "_law_text", "_law_at"] ["_law_script"] (defScope s_law) := ⟨rfl, rfl, rfl, by decide +kernel, rfl, by decide +kernel, by decide +kernel⟩
theorem ck_law : CkSs ⟨["_law_script", "_law_size", "_law_odd", "_law_signs", "_law_k", "_law_sign", "_law_text", "_law_at"], defScope s_law, names, glo⟩ b_law (defBody s_law) :=
    (.cons (.set rfl (.inl rfl) (.call rfl rfl rfl (.cons (.var rfl (.inl rfl) rfl rfl) (.cons .int (.cons .int (.cons (.idx (.lst (.cons .int (.cons .int (.cons .int .nil)))) (.call rfl rfl rfl (.cons (.var rfl (.inl rfl) rfl rfl) (.cons .int (.cons .int (.cons .int .nil))))) (fun _ _ => rfl)) .nil))))) (fun _ => rfl))
    (.cons (.set rfl (.inl rfl) (.call rfl rfl rfl (.cons (.var rfl (.inl rfl) rfl rfl) (.cons .int (.cons .int (.cons .int .nil))))) (fun _ => rfl))
    (.cons (.set rfl (.inl rfl) (.lst .nil) (fun _ => rfl))
    (.cons (.forr (.var rfl (.inl rfl)) (.rng1 rfl (.var rfl (.inl rfl) rfl rfl)) (fun _ _ => rfl) (.cons (.set rfl (.inl rfl) (.idx .str (.call rfl rfl rfl (.cons (.var rfl (.inl rfl) rfl rfl) (.cons (.bin .int (.var rfl (.inl rfl) rfl rfl)) (.cons .int (.cons .int .nil))))) (fun _ _ => rfl)) (fun _ => rfl))
    (.cons (.ite (.and2 (.cmp (.var rfl (.inl rfl) rfl rfl) .int rfl) (.cmp (.call rfl rfl rfl (.cons (.var rfl (.inl rfl) rfl rfl) (.cons (.bin .int (.var rfl (.inl rfl) rfl rfl)) (.cons .int (.cons .int .nil))))) .int rfl)) (.cons (.set rfl (.inl rfl) (.idx .str (.call rfl rfl rfl (.cons (.var rfl (.inl rfl) rfl rfl) (.cons (.bin .int (.var rfl (.inl rfl) rfl rfl)) (.cons .int (.cons .int .nil))))) (fun _ _ => rfl)) (fun _ => rfl))
    .nil) .nil)
    (.cons (.expr (.append (.var rfl (.inl rfl) rfl rfl) (.var rfl (.inl rfl) rfl rfl) rfl) (fun _ => rfl))
    .nil))))
    (.cons (.set rfl (.inl rfl) (.join .str (.var rfl (.inl rfl) rfl rfl) (fun _ => rfl) rfl) (fun _ => rfl))
    (.cons (.ite (.cmp (.call rfl rfl rfl (.cons (.var rfl (.inl rfl) rfl rfl) (.cons .int (.cons .int (.cons .int .nil))))) .int rfl) (.cons (.set rfl (.inl rfl) (.bin .str (.sli (.var rfl (.inl rfl) rfl rfl) (.some .int) .none)) (fun _ => rfl))
    .nil) .nil)
    (.cons (.ite (.and2 (.cmp (.call rfl rfl rfl (.cons (.var rfl (.inl rfl) rfl rfl) (.cons .int (.cons .int (.cons .int .nil))))) .int rfl) (.cmp (.var rfl (.inl rfl) rfl rfl) .int rfl)) (.cons (.set rfl (.inl rfl) (.call rfl rfl rfl (.cons (.var rfl (.inl rfl) rfl rfl) (.cons .int (.cons .int (.cons (.var rfl (.inl rfl) rfl rfl) .nil))))) (fun _ => rfl))
    (.cons (.set rfl (.inl rfl) (.bin (.bin (.sli (.var rfl (.inl rfl) rfl rfl) .none (.some (.var rfl (.inl rfl) rfl rfl))) (.idx .str (.call rfl rfl rfl (.cons (.var rfl (.inl rfl) rfl rfl) (.cons .int (.cons .int (.cons .int .nil))))) (fun _ _ => rfl))) (.sli (.var rfl (.inl rfl) rfl rfl) (.some (.bin (.var rfl (.inl rfl) rfl rfl) .int)) .none)) (fun _ => rfl))
    .nil)) .nil)
    (.cons (.ret (.call rfl rfl rfl (.cons (.call rfl rfl rfl (.cons (.var rfl (.inl rfl) rfl rfl) .nil)) (.cons (.call rfl rfl rfl (.cons (.var rfl (.inl rfl) rfl rfl) .nil)) .nil))))
    .nil))))))))
theorem all_mk {l : PySem.W.OpenLaw} {w : World} {K : PySem.W.Frag} {h : Heap} {mg : Str → Option Value} {fa f0 f1 f2 f3 f4 f5 : Addr} (X : K.In h) (G : h.Ns mainGlobals mg) (hfa : mg "law" = some (.ref fa))
    {od0 an0 od1 an1 od2 an2 od3 an3 od4 an4 od5 an5 : Option Addr} {sl0 sl1 sl2 sl3 sl4 sl5 : Array (Option Value)} {oc0 kV0 dc0 pm0 cd0 ct0 oc1 kV1 dc1 pm1 cd1 ct1 oc2 kV2 dc2 pm2 cd2 ct2 oc3 kV3 dc3 pm3 cd3 ct3 oc4 kV4 dc4 pm4 cd4 ct4 oc5 kV5 dc5 pm5 cd5 ct5 : Value} {gt0 : Tok}
    (a0 : PySem.W.nsIn K mainGlobals "all_figures" = some (some (.ref f0))) (l0 : K.lookup f0 = some ⟨oc0, od0, .func (PySem.W.fnOf "all_figures" "all_figures" (defArgs s_all_figures) (defBody s_all_figures) (defScope s_all_figures) .none kV0 dc0 pm0 an0 cd0 ct0), sl0⟩) (c0 : PySem.W.codeIn K cd0 "all_figures" = true) (k0 : PySem.W.keepIn K (.ref f0) = true)
    (a1 : PySem.W.nsIn K mainGlobals "number" = some (some (.ref f1))) (l1 : K.lookup f1 = some ⟨oc1, od1, .func (PySem.W.fnOf "number" "number" (defArgs s_number) (defBody s_number) (defScope s_number) .none kV1 dc1 pm1 an1 cd1 ct1), sl1⟩) (c1 : PySem.W.codeIn K cd1 "number" = true) (k1 : PySem.W.keepIn K (.ref f1) = true)
    (a2 : PySem.W.nsIn K mainGlobals "_law_draw" = some (some (.ref f2))) (l2 : K.lookup f2 = some ⟨oc2, od2, .func (PySem.W.fnOf "_law_draw" "_law_draw" (defArgs s_law_draw) (defBody s_law_draw) (defScope s_law_draw) .none kV2 dc2 pm2 an2 cd2 ct2), sl2⟩) (c2 : PySem.W.codeIn K cd2 "_law_draw" = true) (k2 : PySem.W.keepIn K (.ref f2) = true)
    (a3 : PySem.W.nsIn K mainGlobals "_law_same" = some (some (.ref f3))) (l3 : K.lookup f3 = some ⟨oc3, od3, .func (PySem.W.fnOf "_law_same" "_law_same" (defArgs s_law_same) (defBody s_law_same) (defScope s_law_same) .none kV3 dc3 pm3 an3 cd3 ct3), sl3⟩) (c3 : PySem.W.codeIn K cd3 "_law_same" = true) (k3 : PySem.W.keepIn K (.ref f3) = true)
    (a4 : PySem.W.nsIn K mainGlobals "_law_number" = some (some (.ref f4))) (l4 : K.lookup f4 = some ⟨oc4, od4, .func (PySem.W.fnOf "_law_number" "_law_number" (defArgs s_law_number) (defBody s_law_number) (defScope s_law_number) .none kV4 dc4 pm4 an4 cd4 ct4), sl4⟩) (c4 : PySem.W.codeIn K cd4 "_law_number" = true) (k4 : PySem.W.keepIn K (.ref f4) = true)
    (a5 : PySem.W.nsIn K mainGlobals "law" = some (some (.ref f5))) (l5 : K.lookup f5 = some ⟨oc5, od5, .func (PySem.W.fnOf "law" "law" (defArgs s_law) (defBody s_law) (defScope s_law) .none kV5 dc5 pm5 an5 cd5 ct5), sl5⟩) (c5 : PySem.W.codeIn K cd5 "law" = true) (k5 : PySem.W.keepIn K (.ref f5) = true)
    (gl0 : PySem.W.nsIn K mainGlobals "FIGURES" = some (some (.str (PySem.Str.ofString "0123456789") gt0)))
    (z0 : PySem.W.nsIn K mainGlobals "len" = some none)
    (z1 : PySem.W.nsIn K mainGlobals "min" = some none)
    (z2 : PySem.W.nsIn K mainGlobals "max" = some none)
    (z3 : PySem.W.nsIn K mainGlobals "tuple" = some none)
    (z4 : PySem.W.nsIn K mainGlobals "list" = some none)
    (z5 : PySem.W.nsIn K mainGlobals "all" = some none)
    (z6 : PySem.W.nsIn K mainGlobals "sorted" = some none)
    (z7 : PySem.W.nsIn K mainGlobals "isinstance" = some none)
    (z8 : PySem.W.nsIn K mainGlobals "range" = some none)
    (z9 : PySem.W.nsIn K mainGlobals "int" = some none)
    (z10 : PySem.W.nsIn K mainGlobals "bool" = some none)
    (z11 : PySem.W.nsIn K mainGlobals "str" = some none)
    (z12 : PySem.W.nsIn K mainGlobals "zip" = some none)
    (z13 : PySem.W.nsIn K mainGlobals "any" = some none)
    (z14 : PySem.W.nsIn K mainGlobals "enumerate" = some none)
    (z15 : PySem.W.nsIn K mainGlobals "reversed" = some none)
    (z16 : PySem.W.nsIn K mainGlobals "sum" = some none)
    (z17 : PySem.W.nsIn K mainGlobals "set" = some none)
    (z18 : PySem.W.nsIn K mainGlobals "dict" = some none)
    : ∃ fd : FuncData, (∀ (s : Shared) (v : Value), BindsTo s fd ⟨[v], []⟩ [("_law_script", v)]) ∧ ∀ base : Heap, K.In base → base.Ns mainGlobals mg → FnOk l.prog w K mg base CX0 100 fa fd ["_law_script"] (spLaw K) := by
  have e := hfa.symm.trans (PySem.W.mg_of X G a5)
  cases e
  have Mg : Mo K mg glo := ⟨fun x d hm => by
      simp only [glo, List.mem_cons, List.not_mem_nil, or_false, Prod.mk.injEq] at hm
      rcases hm with ⟨rfl, rfl⟩
      · exact ⟨_, (.str (PySem.Str.ofString "0123456789")), PySem.W.mg_of X G gl0, ⟨_, rfl⟩, fun m H => (mkStr _)⟩
    , PySem.W.mg_none_of X G z0, PySem.W.mg_none_of X G z1, PySem.W.mg_none_of X G z2, PySem.W.mg_none_of X G z3, PySem.W.mg_none_of X G z4, PySem.W.mg_none_of X G z5, PySem.W.mg_none_of X G z6, PySem.W.mg_none_of X G z7, PySem.W.mg_none_of X G z8, PySem.W.mg_none_of X G z9, PySem.W.mg_none_of X G z10, PySem.W.mg_none_of X G z11, PySem.W.mg_none_of X G z12, PySem.W.mg_none_of X G z13, PySem.W.mg_none_of X G z14, PySem.W.mg_none_of X G z15, PySem.W.mg_none_of X G z16, PySem.W.mg_none_of X G z17, PySem.W.mg_none_of X G z18⟩
  have F0 := fun_mk (st := s_all_figures) l0 c0 k0
  have b0 := F0.binds (ps := ["text"]) fun _ _ _ _ _ _ us hl => match us, hl with | [_], _ => rfl
  have F1 := fun_mk (st := s_number) l1 c1 k1
  have b1 := F1.binds (ps := ["text"]) fun _ _ _ _ _ _ us hl => match us, hl with | [_], _ => rfl
  have F2 := fun_mk (st := s_law_draw) l2 c2 k2
  have b2 := F2.binds (ps := ["_law_script", "_law_k", "_law_j", "_law_many"]) fun _ _ _ _ _ _ us hl => match us, hl with | [_, _, _, _], _ => rfl
  have F3 := fun_mk (st := s_law_same) l3 c3 k3
  have b3 := F3.binds (ps := ["_law_found", "_law_due"]) fun _ _ _ _ _ _ us hl => match us, hl with | [_, _], _ => rfl
  have F4 := fun_mk (st := s_law_number) l4 c4 k4
  have b4 := F4.binds (ps := ["_law_word"]) fun _ _ _ _ _ _ us hl => match us, hl with | [_], _ => rfl
  have F5 := fun_mk (st := s_law) l5 c5 k5
  have b5 := F5.binds (ps := ["_law_script"]) fun _ _ _ _ _ _ us hl => match us, hl with | [_], _ => rfl
  have T : ∀ f x, names[f]? = some x → FText K mg fns names glo f x := by
    intro f x hx
    match f, hx with
    | 0, hx => cases hx; exact ⟨_, _, s_all_figures, _, _, f_all_figures, rfl, F0, PySem.W.mg_of X G a0, b0, sc_all_figures, ck_all_figures, rfl, rfl⟩
    | 1, hx => cases hx; exact ⟨_, _, s_number, _, _, f_number, rfl, F1, PySem.W.mg_of X G a1, b1, sc_number, ck_number, rfl, rfl⟩
    | 2, hx => cases hx; exact ⟨_, _, s_law_draw, _, _, f_law_draw, rfl, F2, PySem.W.mg_of X G a2, b2, sc_law_draw, ck_law_draw, rfl, rfl⟩
    | 3, hx => cases hx; exact ⟨_, _, s_law_same, _, _, f_law_same, rfl, F3, PySem.W.mg_of X G a3, b3, sc_law_same, ck_law_same, rfl, rfl⟩
    | 4, hx => cases hx; exact ⟨_, _, s_law_number, _, _, f_law_number, rfl, F4, PySem.W.mg_of X G a4, b4, sc_law_number, ck_law_number, rfl, rfl⟩
    | 5, hx => cases hx; exact ⟨_, _, s_law, _, _, f_law, rfl, F5, PySem.W.mg_of X G a5, b5, sc_law, ck_law, rfl, rfl⟩
    | n + 6, hx => simp [names] at hx
  refine ⟨_, fun s v => .of_eq rfl, fun base _ _ => (fun_ok (n := 99) (f := 5) (F := f_law) (fun j _ => tab_ok T Mg j) Mg rfl F5 sc_law ck_law rfl rfl).imp (law_sp K06.law_ok)⟩
end K06
open PySem PySem.W PyProof.Rows
set_option maxRecDepth 100000 in
set_option maxHeartbeats 0 in
theorem PySem.Challenge.cw_dipright_k06_numbers_read_holds : PySem.Challenge.rw_dipright_k06_numbers_read.Holds := by
  w_on; o_law; k_head; (case hw => w_witness2)
  k_fill
  refine MS.walk_law (l := PySem.Challenge.rw_dipright_k06_numbers_read) (k := 100) (x := "_law_script") rfl rfl ⟨rfl, by decide, by decide⟩ (fun w h Y => PySem.W.kIn_of Y) ?F
  case F =>
    intro w mg fa h KX G hmg
    refine' K06.all_mk KX G hmg ?a0 ?l0 ?c0 ?k0 ?a1 ?l1 ?c1 ?k1 ?a2 ?l2 ?c2 ?k2 ?a3 ?l3 ?c3 ?k3 ?a4 ?l4 ?c4 ?k4 ?a5 ?l5 ?c5 ?k5 ?gl0 ?z0 ?z1 ?z2 ?z3 ?z4 ?z5 ?z6 ?z7 ?z8 ?z9 ?z10 ?z11 ?z12 ?z13 ?z14 ?z15 ?z16 ?z17 ?z18
    (case a0 => k_is)
    (case l0 => k_is)
    (case c0 => k_is)
    (case k0 => k_is)
    (case a1 => k_is)
    (case l1 => k_is)
    (case c1 => k_is)
    (case k1 => k_is)
    (case a2 => k_is)
    (case l2 => k_is)
    (case c2 => k_is)
    (case k2 => k_is)
    (case a3 => k_is)
    (case l3 => k_is)
    (case c3 => k_is)
    (case k3 => k_is)
    (case a4 => k_is)
    (case l4 => k_is)
    (case c4 => k_is)
    (case k4 => k_is)
    (case a5 => k_is)
    (case l5 => k_is)
    (case c5 => k_is)
    (case k5 => k_is)
    (case gl0 => k_is)
    (case z0 => k_is)
    (case z1 => k_is)
    (case z2 => k_is)
    (case z3 => k_is)
    (case z4 => k_is)
    (case z5 => k_is)
    (case z6 => k_is)
    (case z7 => k_is)
    (case z8 => k_is)
    (case z9 => k_is)
    (case z10 => k_is)
    (case z11 => k_is)
    (case z12 => k_is)
    (case z13 => k_is)
    (case z14 => k_is)
    (case z15 => k_is)
    (case z16 => k_is)
    (case z17 => k_is)
    (case z18 => k_is)
#print axioms PySem.Challenge.cw_dipright_k06_numbers_read_holds
