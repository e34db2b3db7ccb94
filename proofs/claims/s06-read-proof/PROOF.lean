import PyProof.Rows.All
import Wide.All
import OpenK.AllK
import Wide.FinOn
import PyProof.EqAt
import PyProof.EqKinds
import PyProof.TupleCall
import Open.SpecLaws
import KE.OsHead
import KE.OsGo
import PyProof.ExcInit
import PyProof.InstStoreFacts
import PyProof.StationsW
import PyProof.ExcBaseAll.Exception
import PyProof.ExcAttrAll.Exception
import PyProof.RulesAs
import PyProof.JoinWalk
import PyProof.CollectIter
import KE.KRevIter
import PyProof.ConsumeWalk
import PySem.Challenge.RW_onevalues_s06_read
set_option Elab.async false
set_option linter.all false
set_option maxRecDepth 100000
/-! THE HAND LAYER, for ints, bools, texts, own classes, LISTS and tuples (index, slices, in, append, pop ..), calls, loops. Paste it whole ahead of your own text; what your proof does not reach may be deleted. -/
namespace L2
open PySem PySem.Spec PyProof.Rows

/-- a key: an int or a str -/
abbrev Key := Sum Int Str
def keyIs : Key → Value → Bool
  | .inl k, v => Value.isInt k v
  | .inr x, v => Value.isStrOf x v
def keyH (w : World) : Key → Int
  | .inl k => hashInt k
  | .inr x => hashStr w x
theorem keyIs_shape : ∀ {k : Key} {v : Value}, keyIs k v = true → (∃ i t, k = Sum.inl i ∧ v = Value.int i t) ∨ (∃ x t, k = Sum.inr x ∧ v = Value.str x t)
  | .inl i, v, h => by
    obtain ⟨t, e⟩ := Value.isInt_shape (k := i) (v := v) h
    exact .inl ⟨i, t, rfl, e⟩
  | .inr x, v, h => by
    obtain ⟨t, e⟩ := Value.isStrOf_shape (x := x) (v := v) h
    exact .inr ⟨x, t, rfl, e⟩
theorem key_ll (a b : Int) : decide ((Sum.inl a : Key) = Sum.inl b) = (a == b) := by
  by_cases e : a = b
  · subst e; simp
  · have h : ¬ (Sum.inl a : Key) = Sum.inl b := fun q => e (Sum.inl.inj q)
    rw [decide_eq_false h]
    exact (beq_eq_false_iff_ne.mpr e).symm
theorem key_rr (a b : Str) : decide ((Sum.inr a : Key) = Sum.inr b) = decide (a = b) := by
  by_cases e : a = b
  · subst e; simp
  · have h : ¬ (Sum.inr a : Key) = Sum.inr b := fun q => e (Sum.inr.inj q)
    rw [decide_eq_false h, decide_eq_false e]
theorem key_lr (a : Int) (b : Str) : decide ((Sum.inl a : Key) = Sum.inr b) = false := decide_eq_false (fun q => nomatch q)
theorem key_rl (a : Str) (b : Int) : decide ((Sum.inr a : Key) = Sum.inl b) = false := decide_eq_false (fun q => nomatch q)

def mixKind (prog : Program) (w : World) : PySem.KeyKind prog w Key where
  is := keyIs
  hash := keyH w
  inj := fun v a b ha hb => by
    rcases keyIs_shape ha with ⟨i, t, rfl, rfl⟩ | ⟨x, t, rfl, rfl⟩
    · rcases keyIs_shape hb with ⟨j, u, rfl, e⟩ | ⟨y, u, rfl, e⟩
      · injection e with e1 _; rw [e1]
      · exact nomatch e
    · rcases keyIs_shape hb with ⟨j, u, rfl, e⟩ | ⟨y, u, rfl, e⟩
      · exact nomatch e
      · injection e with e1 _; rw [e1]
  byValue := fun k v h => by
    rcases keyIs_shape h with ⟨i, t, rfl, rfl⟩ | ⟨x, t, rfl, rfl⟩ <;> rfl
  pyHash := fun hv h => by
    rcases keyIs_shape hv with ⟨i, t, rfl, rfl⟩ | ⟨x, t, rfl, rfl⟩
    · exact wpAny_pyHash_int h
    · exact wpAny_pyHash_str h
  eqBool := fun hu hv h => by
    rcases keyIs_shape hu with ⟨i, t, rfl, rfl⟩ | ⟨x, t, rfl, rfl⟩
    · rcases keyIs_shape hv with ⟨j, u, rfl, rfl⟩ | ⟨y, u, rfl, rfl⟩
      · rw [key_ll] at h; exact wpAny_eqBool_int h
      · rw [key_lr] at h; exact SeqAt.EqAt.int_str i t y u _ _ _ _ h
    · rcases keyIs_shape hv with ⟨j, u, rfl, rfl⟩ | ⟨y, u, rfl, rfl⟩
      · rw [key_rl] at h; exact SeqAt.EqAt.str_int x t j u _ _ _ _ h
      · rw [key_rr] at h; exact wpAny_eqBool_str h
  «strs» := fun k x t v h => by
    rcases keyIs_shape h with ⟨i, u, rfl, e⟩ | ⟨y, u, rfl, e⟩
    · exact nomatch e
    · injection e with e1 _
      subst e1
      cases v <;> rfl

end L2

namespace L2
open PySem PySem.Spec PyProof.Rows

/-- a value, without the heap -/
inductive V where
  | non | bl (b : Bool) | int (i : Int) | str (x : Str) | byt (b : Array UInt8) | flt (b : UInt64) | ref (a : Addr) | ty (n : String)
  deriving DecidableEq

def RelV : V → Value → Prop
  | .non, u => u = Value.none
  | .bl b, u => u = Value.bool b
  | .int i, u => ∃ t, u = Value.int i t
  | .str x, u => ∃ t, u = Value.str x t
  | .byt b, u => ∃ t, u = Value.bytes b t
  | .flt b, u => ∃ t, u = Value.float b t
  | .ref a, u => u = Value.ref a
  | .ty n, u => u = Value.type n

abbrev Vals : List V → List Value → Prop := Paired RelV
theorem Vals.length {xs : List V} {us : List Value} (r : Vals xs us) : xs.length = us.length := Paired.length r
theorem Vals.get : ∀ {xs : List V} {us : List Value} {i : Nat} {x : V}, Vals xs us → xs[i]? = some x → ∃ u, us[i]? = some u ∧ RelV x u
  | _, _, _, _, .nil, e => by simp at e
  | _, _, 0, _, .cons r _, e => by simp at e; subst e; exact ⟨_, rfl, r⟩
  | _, _, i + 1, x, .cons _ t, e => by
    obtain ⟨u, h1, h2⟩ := Vals.get (i := i) (x := x) t (by simpa using e)
    exact ⟨u, by simpa using h1, h2⟩
theorem Vals.append : ∀ {xs ys : List V} {us ws : List Value}, Vals xs us → Vals ys ws → Vals (xs ++ ys) (us ++ ws)
  | _, _, _, _, .nil, s => s
  | _, _, _, _, .cons r t, s => .cons r (Vals.append t s)
theorem Vals.take : ∀ {xs : List V} {us : List Value} (n : Nat), Vals xs us → Vals (xs.take n) (us.take n)
  | _, _, 0, _ => .nil
  | _, _, _ + 1, .nil => .nil
  | _, _, n + 1, .cons r t => .cons r (Vals.take n t)
theorem Vals.drop : ∀ {xs : List V} {us : List Value} (n : Nat), Vals xs us → Vals (xs.drop n) (us.drop n)
  | _, _, 0, r => r
  | _, _, _ + 1, .nil => .nil
  | _, _, n + 1, .cons _ t => Vals.drop n t
def RelO : Option V → Option Value → Prop
  | some v, some u => RelV v u
  | none, none => True
  | _, _ => False
def KV {κ : Type} : List (κ × V) → List (κ × Value) → Prop := Paired fun (p : κ × V) (q : κ × Value) => p.1 = q.1 ∧ RelV p.2 q.2

/-- a key of a dict (00_mix): an int or a text -/
def kV : Key → V
  | .inl i => .int i
  | .inr x => .str x

/-- what stands at a tracked address -/
inductive HO where
  /-- a list -/
  | lst (xs : List V)
  /-- a tuple (never changes) -/
  | tup (xs : List V)
  /-- a dict whose keys are ints and texts; one whose keys are tuples of ints and texts (the empty one is both) -/
  | dK (kvs : List (Key × V)) | dT (kvs : List (List Key × V))
  /-- a set of ints: its members, its size -/
  | set (S : Int → Bool) (n : Nat)
  /-- an instance of the class at C, its dict at dx, its attributes -/
  | ins (C dx : Addr) (fs : List (Str × V))
  /-- the dict of the instance at x -/
  | own (x : Addr)
  /-- the dict of an exception -/
  | xd (fs : List (Str × V))
  /-- a bound method, f of x -/
  | met (f x : Addr)
  /-- a range object lo, lo + 1, .. below hi -/
  | rng (lo hi : Int)
  /-- a thing that is known to the object (the script; a dict while a loop walks it): read, never written while it is so -/
  | frz (o : Obj) (u : HO)
  /-- a code object's table -/
  | tbl (ps : Array Value)
  /-- any other thing, by what is true of its one object (a def of one's own: SetO a S n := HO.ext fun h => ..) -/
  | ext (φ : Heap → Prop)

abbrev Hp := Addr → Option HO
def upd (H : Hp) (a : Addr) (o : HO) : Hp := fun b => if b = a then some o else H b
theorem upd_same {H : Hp} {a : Addr} {o : HO} : upd H a o a = some o := by unfold upd; rw [if_pos rfl]
theorem upd_ne {H : Hp} {a b : Addr} {o : HO} (h : b ≠ a) : upd H a o b = H b := by unfold upd; rw [if_neg h]
/-- two objects of different content stand apart -/
theorem ne_of {H : Hp} {a b : Addr} {o u : HO} (h : H a = some o) (h' : H b = some u) (d : o ≠ u) : a ≠ b := by
  intro e; subst e; rw [h] at h'; exact d (Option.some.inj h')
theorem ne_of_none {H : Hp} {a b : Addr} {o : HO} (h : H a = some o) (h' : H b = none) : a ≠ b := by
  intro e; subst e; rw [h] at h'; cases h'

section
variable (P : Program) (w : World)
def ObjOk (H : Hp) (h : Heap) (a : Addr) : HO → Prop
  | .lst xs => xs.length ≤ sizeLine ∧ ∃ (its : List Value) (n : Nat), Vals xs its ∧ h.get? a = some { cls := .type "list", data := .seq its.toArray n }
  | .tup xs => xs.length ≤ sizeLine ∧ ∃ its : List Value, Vals xs its ∧ IsTup h a its.toArray
  | .dK kvs => kvs.length ≤ sizeLine ∧ (a == sysModules) = false ∧ ∃ vs, KV kvs vs ∧ h.DictOf (mixKind P w) a vs
  | .dT kvs => kvs.length ≤ sizeLine ∧ (a == sysModules) = false ∧ ∃ xs : List (List Key × Addr × Value),
      Paired (fun (p : List Key × V) (q : List Key × Addr × Value) => p.1 = q.1 ∧ H q.2.1 = some (.tup (p.1.map kV)) ∧ RelV p.2 q.2.2) kvs xs ∧
      ∃ o es ep, h.get? a = some o ∧ o.ExactDict ∧ o.data = .dict es ep ∧ es.toList = xs.map (entryOfKey (tupleKind (mixKind P w))) ∧ (xs.map (·.1)).Nodup
  | .set S n => h.SetOf (intKind P w) a S n
  | .ins C dx fs => H dx = some (.own a) ∧ fs.length ≤ 1000 ∧ dx ≠ a ∧ h.get? a = some (PySem.W.instObj C dx) ∧
      ∃ mA, h.Ns1 dx mA ∧ (∀ f, RelO (fs.lookup f) (mA f)) ∧ PySem.Within mA (fs.map (·.1))
  | .own _ => ∃ o, h.get? a = some o
  | .xd fs => ∃ mA, h.Ns1 a mA ∧ ∀ f, RelO (fs.lookup f) (mA f)
  | .rng lo hi => ∃ t u v, h.get? a = some { cls := .type "range", data := .fields #[.int lo t, .int hi u, .int 1 v] }
  | .frz o u => h.get? a = some o ∧ ObjOk H h a u
  | .tbl ps => h.get? a = some { cls := .none, data := .fields ps }
  | .met f x => h.get? a = some (PySem.W.methodObj (.ref f) (.ref x))
  | .ext φ => φ h ∧ (∃ o, h.get? a = some o) ∧ ∀ h1 h2 : Heap, φ h1 → (∀ o, h1.get? a = some o → h2.get? a = some o) → φ h2
/-- the abstract heap is held -/
def HOk (H : Hp) (h : Heap) : Prop := ∀ a o, H a = some o → ObjOk P w H h a o
end

section
variable {P : Program} {w : World} {H H' : Hp} {h h' : Heap} {a : Addr} {o : HO}
theorem ObjOk.lt (x : ObjOk P w H h a o) : a < h.objs.size := by
  cases o with
  | lst xs => obtain ⟨_, _, _, _, e⟩ := x; exact Heap.lt_size e
  | tup xs => obtain ⟨_, _, _, p⟩ := x; exact p.lt
  | dK kvs => obtain ⟨_, _, _, _, o, _, _, e, _⟩ := x; exact Heap.lt_size e
  | dT kvs => obtain ⟨_, _, _, _, o, _, _, e, _⟩ := x; exact Heap.lt_size e
  | set S n => obtain ⟨o, _, _, _, e, _⟩ := x; exact Heap.lt_size e
  | ins C dx fs => obtain ⟨_, _, _, e, _⟩ := x; exact Heap.lt_size e
  | own y => obtain ⟨_, e⟩ := x; exact Heap.lt_size e
  | xd fs => obtain ⟨_, ⟨_, _, _, e, _⟩, _⟩ := x; exact Heap.lt_size e
  | rng lo hi => obtain ⟨_, _, _, e⟩ := x; exact Heap.lt_size e
  | frz ob u => obtain ⟨e, _⟩ := x; exact Heap.lt_size e
  | tbl ps => exact Heap.lt_size (show h.get? a = some _ from x)
  | met f y => exact Heap.lt_size (show h.get? a = some _ from x)
  | ext φ => obtain ⟨_, ⟨_, e⟩, _⟩ := x; exact Heap.lt_size e
theorem Paired.mapP {α β : Type} {F G : α → β → Prop} : ∀ {l₁ : List α} {l₂ : List β}, Paired F l₁ l₂ → (∀ a b, F a b → G a b) → Paired G l₁ l₂
  | _, _, .nil, _ => .nil
  | _, _, .cons r t, f => .cons (f _ _ r) (Paired.mapP t f)
/-- what an object's description leans on: its own object, its own dict, the tuples -/
theorem ObjOk.stay (x : ObjOk P w H h a o) (k : ∀ b u, (b = a ∨ H b = some (.own a)) → h.get? b = some u → h'.get? b = some u)
    (ho : ∀ b, H b = some (.own a) → H' b = some (.own a)) (ht : ∀ b xs, H b = some (.tup xs) → H' b = some (.tup xs)) : ObjOk P w H' h' a o := by
  induction o with
  | lst xs => obtain ⟨z, its, n, r, e⟩ := x; exact ⟨z, its, n, r, k _ _ (.inl rfl) e⟩
  | tup xs => obtain ⟨z, its, r, ob, e, c⟩ := x; exact ⟨z, its, r, ob, k _ _ (.inl rfl) e, c⟩
  | dK kvs => obtain ⟨z, y, vs, r, ob, es, ep, e, c⟩ := x; exact ⟨z, y, vs, r, ob, es, ep, k _ _ (.inl rfl) e, c⟩
  | dT kvs =>
    obtain ⟨z, y, xs, r, ob, es, ep, e, c⟩ := x
    exact ⟨z, y, xs, Paired.mapP r fun p q z => ⟨z.1, ht _ _ z.2.1, z.2.2⟩, ob, es, ep, k _ _ (.inl rfl) e, c⟩
  | set S n => obtain ⟨ob, es, ep, t, e, c⟩ := x; exact ⟨ob, es, ep, t, k _ _ (.inl rfl) e, c⟩
  | ins C dx fs =>
    obtain ⟨d, z, ne, e, mA, ⟨od, es, ep, e2, c⟩, r⟩ := x
    exact ⟨ho _ d, z, ne, k _ _ (.inl rfl) e, mA, ⟨od, es, ep, k _ _ (.inr d) e2, c⟩, r⟩
  | own y => obtain ⟨ob, e⟩ := x; exact ⟨ob, k _ _ (.inl rfl) e⟩
  | xd fs => obtain ⟨mA, ⟨od, es, ep, e, c⟩, r⟩ := x; exact ⟨mA, ⟨od, es, ep, k _ _ (.inl rfl) e, c⟩, r⟩
  | rng lo hi => obtain ⟨t, u, v, e⟩ := x; exact ⟨t, u, v, k _ _ (.inl rfl) e⟩
  | frz ob u ih => obtain ⟨e, q⟩ := x; exact ⟨k _ _ (.inl rfl) e, ih q⟩
  | tbl ps =>
    have e : h.get? a = some { cls := .none, data := .fields ps } := x
    show h'.get? a = some { cls := .none, data := .fields ps }
    exact k a _ (.inl rfl) e
  | met f y =>
    have e : h.get? a = some (PySem.W.methodObj (.ref f) (.ref y)) := x
    show h'.get? a = some (PySem.W.methodObj (.ref f) (.ref y))
    exact k a _ (.inl rfl) e
  | ext φ => obtain ⟨p, ⟨o, e⟩, st⟩ := x; exact ⟨st _ _ p fun o q => k _ _ (.inl rfl) q, ⟨o, k _ _ (.inl rfl) e⟩, st⟩
theorem HOk.lt (x : HOk P w H h) (e : H a = some o) : a < h.objs.size := (x a o e).lt
theorem HOk.fresh (x : HOk P w H h) (e : h.objs.size ≤ a) : H a = none := by
  cases q : H a with
  | none => rfl
  | some u => exact absurd (Nat.lt_of_lt_of_le (x.lt q) e) (Nat.lt_irrefl _)
/-- every object of the heap is kept -/
theorem HOk.kept (x : HOk P w H h) (k : ∀ b u, h.get? b = some u → h'.get? b = some u) : HOk P w H h' := fun a o e =>
  (x a o e).stay (fun b u _ q => k b u q) (fun _ q => q) fun _ _ q => q
/-- a new object is laid and tracked -/
theorem HOk.laid (x : HOk P w H h) (k : ∀ b u, h.get? b = some u → h'.get? b = some u) (hp : h.objs.size ≤ a) (new : ObjOk P w (upd H a o) h' a o) : HOk P w (upd H a o) h' := fun b u e => by
  have hn := x.fresh hp
  by_cases hb : b = a
  · subst hb; rw [upd_same] at e; cases e; exact new
  · rw [upd_ne hb] at e
    exact (x b u e).stay (fun c v _ q => k c v q) (fun c q => by rw [upd_ne (ne_of_none q hn)]; exact q) fun c xs q => by rw [upd_ne (ne_of_none q hn)]; exact q
end

/-- what may be read as u: it is u, or a known u -/
def Rd (H : Hp) (a : Addr) (u : HO) : Prop := H a = some u ∨ ∃ o, H a = some (.frz o u)
theorem Rd.ok {P : Program} {w : World} {H : Hp} {h : Heap} {a : Addr} {u : HO} (r : Rd H a u) (x : HOk P w H h) : ObjOk P w H h a u := by
  rcases r with r | ⟨o, r⟩
  · exact x a u r
  · obtain ⟨_, q⟩ := x a _ r
    exact q
/-- what may be written -/
def Mut : Option HO → Prop
  | some (.lst _) => True
  | some (.dK _) => True
  | some (.dT _) => True
  | some (.set _ _) => True
  | some (.ins _ _ _) => True
  | some (.ext _) => True
  | _ => False
section
variable {P : Program} {w : World} {H : Hp} {h h' : Heap} {x e : Addr} {o' : HO}
/-- the object at e is changed: x itself, or the dict of the instance x -/
theorem HOk.write (ok : HOk P w H h) (mu : Mut (H x)) (he : e = x ∨ H e = some (.own x)) (k : ∀ b u, b ≠ e → h.get? b = some u → h'.get? b = some u) (heo : ∃ u, h'.get? e = some u)
    (new : ObjOk P w (upd H x o') h' x o') : HOk P w (upd H x o') h' := fun b u q => by
  have nown : ∀ c y, H c = some (.own y) → c ≠ x := fun c y r z => by subst z; rw [r] at mu; exact mu
  have ntup : ∀ c xs, H c = some (.tup xs) → c ≠ x := fun c xs r z => by subst z; rw [r] at mu; exact mu
  by_cases hb : b = x
  · subst hb; rw [upd_same] at q; cases q; exact new
  · rw [upd_ne hb] at q
    by_cases hbe : b = e
    · have q' : H b = some (.own x) := by
        rcases he with z | z
        · exact absurd (hbe.trans z) hb
        · rw [hbe]; exact z
      rw [q] at q'; cases q'
      obtain ⟨v, hv⟩ := heo
      exact ⟨v, by rw [hbe]; exact hv⟩
    · refine (ok b u q).stay (fun c v hc r => k c v ?_ r) (fun c r => by rw [upd_ne (nown c b r)]; exact r) fun c xs r => by rw [upd_ne (ntup c xs r)]; exact r
      rcases hc with rfl | hc
      · exact hbe
      · rintro rfl
        rcases he with z | z
        · exact nown c b hc z
        · rw [hc] at z; cases z; exact hb rfl
end

/-! ### kept unless tracked; of the frames at fs (the callers') the slots may change (an exception that passes writes there); of the records at ex (iterators) nothing is said -/
structure Un (fs ex : List Addr) (H H' : Hp) (h h' : Heap) : Prop where
  keep : ∀ b o, h.get? b = some o → H b = none → b ∉ fs → b ∉ ex → h'.get? b = some o
  slot : ∀ b o, h.get? b = some o → H b = none → b ∈ fs → b ∉ ex → ∃ sl, h'.get? b = some { o with slots := sl }
  free : ∀ b o, h.get? b = some o → H b = none → b ∉ ex → H' b = none
  there : ∀ b o, h.get? b = some o → b ∉ ex → ∃ o', h'.get? b = some o'
  tups : ∀ b xs, H b = some (.tup xs) → H' b = some (.tup xs)
  frzs : ∀ b o u, H b = some (.frz o u) → H' b = some (.frz o u)
  tbls : ∀ b ps, H b = some (.tbl ps) → ∃ more, H' b = some (.tbl (ps ++ more))
section
variable {fs fs' ex ex' : List Addr} {H H1 H2 : Hp} {h h1 h2 h' : Heap} {a x e : Addr} {o : HO}
theorem Un.any (u : Un fs ex H H1 h h1) {b : Addr} {ob : Obj} (q : h.get? b = some ob) (n : H b = none) (hx : b ∉ ex) : ∃ sl, h1.get? b = some { ob with slots := sl } := by
  by_cases hb : b ∈ fs
  · exact u.slot b ob q n hb hx
  · exact ⟨ob.slots, u.keep b ob q n hb hx⟩
theorem Un.kept (k : ∀ b u, h.get? b = some u → h'.get? b = some u) : Un fs ex H H h h' :=
  ⟨fun b ob q _ _ _ => k b ob q, fun b ob q _ _ _ => ⟨ob.slots, k b ob q⟩, fun _ _ _ n _ => n, fun b ob q _ => ⟨ob, k b ob q⟩, fun _ _ q => q, fun _ _ _ q => q, fun _ ps q => ⟨#[], by rw [q]; simp⟩⟩
theorem Un.refl : Un fs ex H H h h := Un.kept fun _ _ q => q
theorem Un.laid (k : ∀ b u, h.get? b = some u → h'.get? b = some u) (hp : h.objs.size ≤ a) (hn : H a = none) : Un fs ex H (upd H a o) h h' where
  keep := fun b u q _ _ _ => k b u q
  slot := fun b u q _ _ _ => ⟨u.slots, k b u q⟩
  free := fun b u q n _ => by rw [upd_ne (Nat.ne_of_lt (Nat.lt_of_lt_of_le (Heap.lt_size q) hp))]; exact n
  there := fun b u q _ => ⟨u, k b u q⟩
  tups := fun b xs q => by rw [upd_ne (ne_of_none q hn)]; exact q
  frzs := fun b u xs q => by rw [upd_ne (ne_of_none q hn)]; exact q
  tbls := fun b ps q => ⟨#[], by rw [upd_ne (ne_of_none q hn), q]; simp⟩
theorem Un.write (mu : Mut (H x)) (he : e = x ∨ H e = some (.own x)) (k : ∀ b u, b ≠ e → h.get? b = some u → h'.get? b = some u) (heo : ∃ u, h'.get? e = some u) : Un fs ex H (upd H x o) h h' := by
  have hx : ∀ b, H b = none → b ≠ x := fun b n z => by subst z; rw [n] at mu; exact mu
  have hb : ∀ b, H b = none → b ≠ e := fun b n z => by
    subst z
    rcases he with r | r
    · exact hx b n r
    · rw [n] at r; cases r
  have hm : ∀ b u, H b = some u → ¬ Mut (some u) → b ≠ x := fun b u q nm z => by subst z; rw [q] at mu; exact nm mu
  refine ⟨fun b u q n _ _ => k b u (hb b n) q, fun b u q n _ _ => ⟨u.slots, k b u (hb b n) q⟩, fun b u q n _ => by rw [upd_ne (hx b n)]; exact n, fun b u q _ => ?_,
    fun b xs q => by rw [upd_ne (hm b _ q fun z => z)]; exact q, fun b u xs q => by rw [upd_ne (hm b _ q fun z => z)]; exact q, fun b ps q => ⟨#[], by rw [upd_ne (hm b _ q fun z => z), q]; simp⟩⟩
  by_cases hbe : b = e
  · subst hbe; exact heo
  · exact ⟨u, k b u hbe q⟩
end

/-! ### the heap without what is tracked -/
def trk (h : Heap) (H : Hp) : List Addr := (List.range h.objs.size).filter fun a => (H a).isSome
def hidT (h : Heap) (H : Hp) : Heap := PySem.W.hideAll h (trk h H)
theorem hidT_size (h : Heap) (H : Hp) : (hidT h H).objs.size = h.objs.size := PySem.W.hideAll_size _ _
theorem hidT_get {h : Heap} {H : Hp} {b : Addr} {o : Obj} (e : h.get? b = some o) (n : H b = none) : (hidT h H).get? b = some o :=
  PySem.W.hideAll_get _ e fun hm => by
    have q : (H b).isSome = true := (List.mem_filter.mp hm).2
    rw [n] at q; simp at q
theorem of_hidT {h : Heap} {H : Hp} {b : Addr} {o : Obj} (e : (hidT h H).get? b = some o) : h.get? b = some o ∧ H b = none := by
  have e' : h.get? b = some o := PySem.W.of_hideAll (trk h H) e
  refine ⟨e', ?_⟩
  cases q : H b with
  | none => rfl
  | some x =>
    have hm : b ∈ trk h H := List.mem_filter.mpr ⟨List.mem_range.mpr (Heap.lt_size e'), by simp [q]⟩
    have z : (hidT h H).get? b = none := PySem.W.hideAll_none (trk h H) hm
    rw [z] at e; cases e

end L2

namespace L2
open PySem PySem.Spec PyProof.Rows

/-- the module's facts, over the base: the heap at the law's entry without what is tracked there -/
structure Mod (K : PySem.W.Frag) (mg : Str → Option Value) (base : Heap) : Prop where
  kin : K.In base
  glob : base.Ns mainGlobals mg
  blt : ∃ mb, base.Ns builtinsNs mb ∧ ∀ x : Str, x ≠ "__name__" → mb x = bootBuiltins x
  nolimit : base.NoLimit

/-- the context: a def's body (or a comprehension's block) running. base: fixed through the whole law; s₀, H₀: the entry; outer: the frames whose slots others may change (a def's callers); stack: all frames that run;
   ex: iterators that were made ahead of the entry and are walked here (a comprehension's); fn: the names whose cells were made at the entry (a def: all; a comprehension's block: its own); calm: not within an except suite; pn: pins that every state bears; xe: what is wanted of an exception that leaves the code -/
structure Cx where
  prog : Program
  w : World
  K : PySem.W.Frag
  mg : Str → Option Value
  base : Heap
  A : Around
  N : List Str
  s_0 : Shared
  H_0 : Hp
  env : Env
  outer : List Env
  stack : List Env
  ex : List Addr
  fn : Str → Bool
  calm : Bool
  pn : List (Addr × Obj)
  xe : Value → Shared → Prop
/-- the callers' frames -/
def frs (l : List Env) : List Addr := l.filterMap (·.frame)
abbrev Cx.fs (X : Cx) : List Addr := frs X.outer

def Vis (sc : Scope) (x : Str) : Prop := sc.names.lookup x = some .local ∨ sc.names.lookup x = some .cell ∨ sc.names.lookup x = some .free
def Loc (sc : Scope) (x : Str) : Prop := sc.names.lookup x = some .local ∨ sc.names.lookup x = some .cell
def Look (env : Env) (h : Heap) (m : Str → Option Value) (x : Str) (u : Value) : Prop :=
  (env.kindOf x = some .local ∧ m x = some u) ∨ ((env.kindOf x = some .cell ∨ env.kindOf x = some .free) ∧ ∃ c, env.cells.lookup x = some c ∧ h.IsCell c (some u))

structure Cx.Ok (X : Cx) : Prop where
  mod : Mod X.K X.mg X.base
  kind : X.env.scope.kind = .function
  glob : X.env.globals = mainGlobals
  blt : X.env.builtins = builtinsNs
  above : X.s_0.heap.objs.size ≤ X.env.locals
  inj : ∀ x y c, X.env.cells.lookup x = some c → X.env.cells.lookup y = some c → x = y
  has : ∀ x, (X.env.kindOf x = some .cell ∨ X.env.kindOf x = some .free) → ∃ c, X.env.cells.lookup x = some c
  cab : ∀ x c, X.fn x = true → X.env.cells.lookup x = some c → X.s_0.heap.objs.size ≤ c
  hd : X.calm = true → X.A.handled = none
  frames : X.A.frames = some X.stack
  stk : X.stack = X.outer ∨ (X.stack = X.env :: X.outer ∧ X.env.frame = some X.env.locals)
  exf : ∀ b ∈ X.ex, b ≠ X.env.locals ∧ ∀ x c, X.env.cells.lookup x = some c → c ≠ b
  bs : ∀ b o, X.base.get? b = some o → X.s_0.heap.get? b = some o ∧ X.H_0 b = none
  bsz : X.base.objs.size ≤ X.s_0.heap.objs.size
  noex : ∀ b o, X.base.get? b = some o → b ∉ X.ex
  exfs : ∀ b ∈ X.ex, b ∉ X.fs
  funs : X.s_0.heap.FunFrames X.base X.outer
  frf : ∀ b ∈ X.fs, X.H_0 b = none

structure Inv (X : Cx) (pins : List (Addr × Obj)) (σ : List (Option V)) (H : Hp) (s : Shared) : Prop where
  ok : X.Ok
  os : s.os = X.s_0.os
  bare : AllBare s.gens
  base : Un X.fs X.ex X.H_0 H X.s_0.heap s.heap
  loc : ∃ m, s.heap.Ns X.env.locals m ∧ ∀ (i : Nat) (x : Str) (v : V), X.N[i]? = some x → σ[i]? = some (some v) → Vis X.env.scope x → ∃ u, RelV v u ∧ Look X.env s.heap m x u
  cell : ∀ x c, X.env.cells.lookup x = some c → ∃ v, s.heap.IsCell c v
  free : H X.env.locals = none
  freeC : ∀ x c, X.env.cells.lookup x = some c → H c = none
  pin : ∀ p ∈ X.pn ++ pins, s.heap.get? p.1 = some p.2 ∧ H p.1 = none ∧ p.1 ≠ X.env.locals ∧ p.1 ∉ X.fs ∧ ∀ v, p.2.data ≠ .cell v
  hok : HOk X.prog X.w H s.heap
  len : σ.length = X.N.length

section
variable {X : Cx} {pins : List (Addr × Obj)} {σ : List (Option V)} {H H' : Hp} {s : Shared} {h' : Heap}

theorem Cx.Ok.nofr (ok : X.Ok) {b : Addr} {o : Obj} (e : X.base.get? b = some o) : b ∉ X.fs := fun hb => by
  have := (ok.funs.mem hb).1
  rw [e] at this; cases this
theorem Inv.bs (I : Inv X pins σ H s) : ∀ b o, X.base.get? b = some o → s.heap.get? b = some o ∧ H b = none := fun b o e =>
  ⟨I.base.keep b o (I.ok.bs b o e).1 (I.ok.bs b o e).2 (I.ok.nofr e) (I.ok.noex b o e), I.base.free b o (I.ok.bs b o e).1 (I.ok.bs b o e).2 (I.ok.noex b o e)⟩
theorem Inv.bk (I : Inv X pins σ H s) : ∀ b o, X.base.get? b = some o → s.heap.get? b = some o := fun b o e => (I.bs b o e).1
theorem Inv.mod (I : Inv X pins σ H s) : Mod X.K X.mg X.base := I.ok.mod
theorem Inv.kIn (I : Inv X pins σ H s) : X.K.In s.heap := I.ok.mod.kin.keeps I.bk
theorem Inv.lt (I : Inv X pins σ H s) : X.env.locals < s.heap.objs.size := let ⟨_, hn, _⟩ := I.loc; hn.lt
theorem Inv.sz (I : Inv X pins σ H s) : X.s_0.heap.objs.size ≤ s.heap.objs.size := Nat.le_trans I.ok.above (Nat.le_of_lt I.lt)
theorem Inv.nofs (I : Inv X pins σ H s) {a : Addr} (h : s.heap.objs.size ≤ a) : a ∉ X.fs := fun hb => by
  obtain ⟨_, o, ho, _⟩ := I.ok.funs.mem hb
  exact absurd (Nat.lt_of_lt_of_le (Heap.lt_size ho) (Nat.le_trans I.sz h)) (Nat.lt_irrefl _)
theorem Inv.cne (I : Inv X pins σ H s) : ∀ x c, X.env.cells.lookup x = some c → c ≠ X.env.locals := fun x c e z => by
  obtain ⟨v, o, ho, hd⟩ := I.cell x c e
  obtain ⟨m, ⟨o', es, ep, ho', hd', _⟩, _⟩ := I.loc
  rw [z, ho'] at ho; cases ho; rw [hd'] at hd; cases hd
theorem Inv.funs (I : Inv X pins σ H s) : s.heap.FunFrames X.base X.outer := by
  have all : ∀ (l : List Env), (∀ b ∈ frs l, b ∈ X.fs) → X.s_0.heap.FunFrames X.base l → s.heap.FunFrames X.base l := by
    intro l
    induction l with
    | nil => intro _ _; trivial
    | cons env r ih =>
      intro hs hl
      obtain ⟨hk, ⟨L, o, hf, hn, ho, hd⟩, hr⟩ := hl
      have hL : L ∈ X.fs := hs L (by unfold frs; rw [List.filterMap_cons, hf]; exact List.mem_cons_self)
      obtain ⟨sl, e⟩ := I.base.slot L o ho (I.ok.frf L hL) hL fun z => I.ok.exfs L z hL
      exact ⟨hk, ⟨L, _, hf, hn, e, hd⟩, ih (fun b hb => hs b (by unfold frs; rw [List.filterMap_cons, hf]; exact List.mem_cons_of_mem _ hb)) hr⟩
  exact all X.outer (fun _ hb => hb) I.ok.funs

/-- the frames that run, for a call -/
theorem Inv.stack (I : Inv X pins σ H s) : s.heap.FunFrames X.base X.stack := by
  rcases I.ok.stk with e | ⟨e, hf⟩
  · rw [e]; exact I.funs
  · rw [e]
    obtain ⟨m, hn, _⟩ := I.loc
    refine .cons (by rw [I.ok.kind]; decide) hf hn ?_ I.funs
    exact Heap.get?_none_of_le (Nat.le_trans I.ok.bsz I.ok.above)
theorem Inv.stkSub (I : Inv X pins σ H s) : ∀ b ∈ frs X.stack, b ∈ X.env.locals :: X.fs := fun b hb => by
  rcases I.ok.stk with e | ⟨e, hf⟩
  · rw [e] at hb; exact List.mem_cons_of_mem _ hb
  · rw [e] at hb
    unfold frs at hb
    rw [List.filterMap_cons, hf] at hb
    exact hb
theorem Inv.stkFree (I : Inv X pins σ H s) : ∀ b ∈ frs X.stack, H b = none := fun b hb => by
  rcases List.mem_cons.mp (I.stkSub b hb) with e | hb
  · rw [e]; exact I.free
  · obtain ⟨_, o, ho, _⟩ := I.ok.funs.mem hb
    exact I.base.free b o ho (I.ok.frf b hb) fun z => I.ok.exfs b z hb

/-- THE STEP: the untracked objects but the frame and the records at ch are kept (the callers' frames up to slots), the frame's map is kept, the new abstract heap is held -/
theorem Inv.step {g' : Array GenState} {t' : Nat} {d' : Drawn} {ch : List Addr} (I : Inv X pins σ H s)
    (hch : ∀ b ∈ ch, (b ∈ X.ex ∨ X.s_0.heap.objs.size ≤ b) ∧ b ≠ X.env.locals ∧ (∀ x c, X.env.cells.lookup x = some c → c ≠ b) ∧ ∀ p ∈ X.pn ++ pins, p.1 ≠ b)
    (keep : ∀ b o, b ≠ X.env.locals → b ∉ X.fs → b ∉ ch → s.heap.get? b = some o → H b = none → h'.get? b = some o)
    (slot : ∀ b o, b ≠ X.env.locals → b ∈ X.fs → b ∉ ch → s.heap.get? b = some o → H b = none → ∃ sl, h'.get? b = some { o with slots := sl }) (free : ∀ b o, b ∉ ch → s.heap.get? b = some o → H b = none → H' b = none)
    (there : ∀ b o, b ∉ ch → s.heap.get? b = some o → ∃ o', h'.get? b = some o')
    (tups : ∀ b xs, H b = some (.tup xs) → H' b = some (.tup xs)) (frzs : ∀ b o u, H b = some (.frz o u) → H' b = some (.frz o u)) (tbls : ∀ b ps, H b = some (.tbl ps) → ∃ more, H' b = some (.tbl (ps ++ more)))
    (ns : ∀ m, s.heap.Ns X.env.locals m → h'.Ns X.env.locals m) (hok : HOk X.prog X.w H' h') (hg : AllBare g') :
    Inv X pins σ H' { s with heap := h', gens := g', drawn := d', toks := t' } := by
  have neL : ∀ b o, X.s_0.heap.get? b = some o → b ≠ X.env.locals := fun b o e => Nat.ne_of_lt (Nat.lt_of_lt_of_le (Heap.lt_size e) I.ok.above)
  have neC : ∀ b o, X.s_0.heap.get? b = some o → b ∉ X.ex → b ∉ ch := fun b o e hx hb => by
    rcases (hch b hb).1 with z | z
    · exact hx z
    · exact absurd (Nat.lt_of_lt_of_le (Heap.lt_size e) z) (Nat.lt_irrefl _)
  have cellK : ∀ x c, X.env.cells.lookup x = some c → ∀ v, s.heap.IsCell c v → h'.IsCell c v := fun x c e v ⟨o, ho, hd⟩ => by
    have nch : c ∉ ch := fun z => (hch c z).2.2.1 x c e rfl
    by_cases hc : c ∈ X.fs
    · obtain ⟨sl, q⟩ := slot c o (I.cne x c e) hc nch ho (I.freeC x c e)
      exact ⟨_, q, hd⟩
    · exact ⟨o, keep c o (I.cne x c e) hc nch ho (I.freeC x c e), hd⟩
  refine ⟨I.ok, I.os, hg, ⟨fun b o e n hb hx => ?_, fun b o e n hb hx => ?_, fun b o e n hx => ?_, fun b o e hx => ?_, fun b xs e => tups b xs (I.base.tups b xs e), fun b o xs e => frzs b o xs (I.base.frzs b o xs e), fun b ps e => ?_⟩, ?_, fun x c e => ?_, ?_, fun x c e => ?_, fun p hp => ?_, hok, I.len⟩
  · exact keep b o (neL b o e) hb (neC b o e hx) (I.base.keep b o e n hb hx) (I.base.free b o e n hx)
  · obtain ⟨sl, e1⟩ := I.base.slot b o e n hb hx
    obtain ⟨sl', e2⟩ := slot b _ (neL b o e) hb (neC b o e hx) e1 (I.base.free b o e n hx)
    exact ⟨sl', e2⟩
  · obtain ⟨o', e1⟩ := I.base.there b o e hx
    exact free b o' (neC b o e hx) e1 (I.base.free b o e n hx)
  · obtain ⟨o', e1⟩ := I.base.there b o e hx
    exact there b o' (neC b o e hx) e1
  · obtain ⟨m1, e1⟩ := I.base.tbls b ps e
    obtain ⟨m2, e2⟩ := tbls b _ e1
    exact ⟨m1 ++ m2, by rw [e2, Array.append_assoc]⟩
  · obtain ⟨m, hn, hl⟩ := I.loc
    refine ⟨m, ns m hn, fun i x v e1 e2 e3 => ?_⟩
    obtain ⟨u, r, l⟩ := hl i x v e1 e2 e3
    refine ⟨u, r, ?_⟩
    rcases l with l | ⟨k, c, e, z⟩
    · exact .inl l
    · exact .inr ⟨k, c, e, cellK x c e _ z⟩
  · obtain ⟨v, z⟩ := I.cell x c e
    exact ⟨v, cellK x c e v z⟩
  · obtain ⟨m, ⟨o, _, _, ho, _⟩, _⟩ := I.loc
    exact free _ o (fun z => (hch _ z).2.1 rfl) ho I.free
  · obtain ⟨v, o, ho, hd⟩ := I.cell x c e
    exact free c o (fun z => (hch c z).2.2.1 x c e rfl) ho (I.freeC x c e)
  · obtain ⟨e, n, ne, nf, d⟩ := I.pin p hp
    have nch : p.1 ∉ ch := fun z => (hch p.1 z).2.2.2 p hp rfl
    exact ⟨keep p.1 p.2 ne nf nch e n, free p.1 p.2 nch e n, ne, nf, d⟩
/-- .. where the frame's own object is kept too -/
theorem Inv.un {t' : Nat} (I : Inv X pins σ H s) (u : Un X.fs [] H H' s.heap h') (hok : HOk X.prog X.w H' h') : Inv X pins σ H' { s with heap := h', toks := t' } := by
  obtain ⟨m, ⟨o, es, ep, ho, r⟩, _⟩ := id I.loc
  obtain ⟨sl, hL⟩ := u.any ho I.free (by simp)
  exact I.step (g' := s.gens) (d' := s.drawn) (ch := []) (fun _ z => nomatch z) (fun b o _ hb _ e n => u.keep b o e n hb (by simp)) (fun b o _ hb _ e n => u.slot b o e n hb (by simp)) (fun b o _ e n => u.free b o e n (by simp)) (fun b o _ e => u.there b o e (by simp)) u.tups u.frzs u.tbls (fun m' hm => by
    obtain ⟨o', es', ep', ho', r'⟩ := hm
    rw [ho] at ho'; cases ho'
    exact ⟨_, es', ep', hL, r'⟩) hok I.bare
/-- behind a call (or a comprehension's block): the slots of this frame may have changed too, the records at ch may have turned -/
theorem Inv.call {g' : Array GenState} {t' : Nat} {d' : Drawn} {ch : List Addr} (I : Inv X pins σ H s) (u : Un (frs X.stack) ch H H' s.heap h') (hok : HOk X.prog X.w H' h') (hg : AllBare g')
    (hch : ∀ b ∈ ch, (b ∈ X.ex ∨ X.s_0.heap.objs.size ≤ b) ∧ b ≠ X.env.locals ∧ (∀ x c, X.env.cells.lookup x = some c → c ≠ b) ∧ ∀ p ∈ X.pn ++ pins, p.1 ≠ b) :
    Inv X pins σ H' { s with heap := h', gens := g', drawn := d', toks := t' } := by
  obtain ⟨m, ⟨o, es, ep, ho, r⟩, _⟩ := id I.loc
  obtain ⟨sl, hL⟩ := u.any ho I.free fun z => (hch _ z).2.1 rfl
  exact I.step (ch := ch) hch (fun b o hL hb hc e n => u.keep b o e n (fun z => (List.mem_cons.mp (I.stkSub b z)).elim hL hb) hc) (fun b o _ _ hc e n => u.any e n hc) (fun b o hc e n => u.free b o e n hc) (fun b o hc e => u.there b o e hc) u.tups u.frzs u.tbls (fun m' hm => by
    obtain ⟨o', es', ep', ho', r'⟩ := hm
    rw [ho] at ho'; cases ho'
    exact ⟨_, es', ep', hL, r'⟩) hok hg
/-- an untracked record of ours (an iterator) has turned -/
theorem Inv.turned {t' : Nat} {it : Addr} (I : Inv X pins σ H s) (k : ∀ b o, b ≠ it → s.heap.get? b = some o → h'.get? b = some o) (hn : H it = none) (hL : it ≠ X.env.locals)
    (h1 : it ∈ X.ex ∨ X.s_0.heap.objs.size ≤ it) (h2 : ∀ x c, X.env.cells.lookup x = some c → c ≠ it) (h3 : ∀ p ∈ X.pn ++ pins, p.1 ≠ it) : Inv X pins σ H { s with heap := h', toks := t' } := by
  have nit : ∀ b u, H b = some u → b ≠ it := fun b u e z => by rw [z, hn] at e; cases e
  refine I.step (g' := s.gens) (d' := s.drawn) (ch := [it]) (fun b hb => ?_) (fun b o _ _ hc e _ => k b o (fun z => hc (by simp [z])) e) (fun b o _ _ hc e _ => ⟨o.slots, k b o (fun z => hc (by simp [z])) e⟩) (fun _ _ _ _ n => n)
    (fun b o hc e => ⟨o, k b o (fun z => hc (by simp [z])) e⟩) (fun _ _ e => e) (fun _ _ _ e => e) (fun b ps e => ⟨#[], by rw [e]; simp⟩) (fun m hm => ?_) (fun b u e => ?_) I.bare
  · have e : b = it := by simpa using hb
    subst e
    exact ⟨h1, hL, h2, h3⟩
  · obtain ⟨o, es, ep, ho, r⟩ := hm
    exact ⟨o, es, ep, k _ o (Ne.symm hL) ho, r⟩
  · refine (I.hok b u e).stay (fun c v hc q => k c v ?_ q) (fun _ q => q) fun _ _ q => q
    rcases hc with z | z
    · rw [z]; exact nit b u e
    · exact nit c _ z
theorem Inv.tok (I : Inv X pins σ H s) (t : Nat) : Inv X pins σ H { s with toks := t } := I.un (h' := s.heap) (t' := t) Un.refl I.hok
/-- all objects kept -/
theorem Inv.kept {t' : Nat} (I : Inv X pins σ H s) (k : ∀ b u, s.heap.get? b = some u → h'.get? b = some u) : Inv X pins σ H { s with heap := h', toks := t' } := I.un (Un.kept k) (I.hok.kept k)
/-- a new object laid and tracked -/
theorem Inv.laid {a : Addr} {o : HO} {t' : Nat} (I : Inv X pins σ H s) (k : ∀ b u, s.heap.get? b = some u → h'.get? b = some u) (hp : s.heap.objs.size ≤ a) (new : ObjOk X.prog X.w (upd H a o) h' a o) :
    Inv X pins σ (upd H a o) { s with heap := h', toks := t' } := I.un (Un.laid k hp (I.hok.fresh hp)) (I.hok.laid k hp new)
/-- an object written -/
theorem Inv.write {x e : Addr} {o : HO} {t' : Nat} (I : Inv X pins σ H s) (mu : Mut (H x)) (he : e = x ∨ H e = some (.own x)) (k : ∀ b u, b ≠ e → s.heap.get? b = some u → h'.get? b = some u) (heo : ∃ u, h'.get? e = some u)
    (new : ObjOk X.prog X.w (upd H x o) h' x o) : Inv X pins σ (upd H x o) { s with heap := h', toks := t' } := I.un (Un.write mu he k heo) (I.hok.write mu he k heo new)
/-- forgetting slots, pins -/
theorem Inv.weak {σ' : List (Option V)} (I : Inv X pins σ H s) (hl : σ'.length = σ.length) (w : ∀ (i : Nat) v, σ'[i]? = some (some v) → σ[i]? = some (some v)) : Inv X pins σ' H s :=
  ⟨I.ok, I.os, I.bare, I.base, let ⟨m, hn, hl'⟩ := I.loc; ⟨m, hn, fun i x v e1 e2 e3 => hl' i x v e1 (w i v e2) e3⟩, I.cell, I.free, I.freeC, I.pin, I.hok, hl.trans I.len⟩
theorem Inv.pins_of {pins' : List (Addr × Obj)} (I : Inv X pins σ H s) (h : ∀ p ∈ pins', s.heap.get? p.1 = some p.2 ∧ H p.1 = none ∧ p.1 ≠ X.env.locals ∧ p.1 ∉ X.fs ∧ ∀ v, p.2.data ≠ .cell v) : Inv X pins' σ H s :=
  ⟨I.ok, I.os, I.bare, I.base, I.loc, I.cell, I.free, I.freeC, fun p hp => (List.mem_append.mp hp).elim (fun z => I.pin p (List.mem_append_left _ z)) (h p), I.hok, I.len⟩

theorem nodup_ix {N : List Str} (hN : N.Nodup) {i j : Nat} {x : Str} (a : N[i]? = some x) (b : N[j]? = some x) : i = j := by
  obtain ⟨h1, e1⟩ := List.getElem?_eq_some_iff.mp a
  obtain ⟨h2, e2⟩ := List.getElem?_eq_some_iff.mp b
  exact (List.getElem_inj hN).mp (e1.trans e2.symm)

/-- a name is stored; what changed -/
theorem store_ok2 {M : Model} {A : Around} {E : Value → Shared → Prop} {i : Nat} {x : Str} {v : V} {u : Value} {Q : Unit → Shared → Prop} (I : Inv X pins σ H s) (hN : X.N.Nodup) (hi : X.N[i]? = some x) (hx : Loc X.env.scope x) (r : RelV v u)
    (h : ∀ s', Inv X pins (σ.set i (some v)) H s' → (∃ a, Heap.SameBut a s.heap s'.heap ∧ (a = X.env.locals ∨ X.env.cells.lookup x = some a)) → Q () s') (hf : X.fn x = true ∨ X.env.scope.names.lookup x = some .local := by first | exact .inl rfl | exact .inr rfl | assumption) : wpAny M A (storeName X.env x u) Q E s := by
  obtain ⟨m, hn, hl⟩ := id I.loc
  have hcls : (X.env.scope.kind == .class || (X.env.scope.kind == .module && X.env.locals != X.env.globals)) = false := by rw [I.ok.kind]; rfl
  have hiσ : i < σ.length := by rw [I.len]; exact (List.getElem?_eq_some_iff.mp hi).1
  have cne := I.cne
  have tracked : ∀ {a : Addr} {h' : Heap}, (∃ o, s.heap.get? a = some o ∧ H a = none) → Heap.SameBut a s.heap h' → HOk X.prog X.w H h' := fun {a h'} ha hs b ob e => by
    obtain ⟨_, _, hfree⟩ := ha
    refine (I.hok b ob e).stay (fun c w' hc q => (hs.2 c ?_).trans q) (fun _ q => q) fun _ _ q => q
    rintro rfl
    rcases hc with rfl | hc
    · rw [hfree] at e; cases e
    · rw [hfree] at hc; cases hc
  rcases hx with hk | hk
  · refine wpAny_storeName_local hk hn (fun h' hn' hs => ?_) hcls
    obtain ⟨oL, _, _, hoL, _⟩ := id hn
    refine h _ ⟨I.ok, I.os, I.bare, ⟨fun b o e n hb hx => ?_, fun b o e n hb hx => ?_, I.base.free, fun b o e hx => ?_, I.base.tups, I.base.frzs, I.base.tbls⟩, ⟨_, hn', fun j y v' e1 e2 e3 => ?_⟩, fun y c e => ?_, I.free, I.freeC, fun p hp => ?_, tracked ⟨oL, hoL, I.free⟩ hs, by simpa using I.len⟩ ⟨_, hs, .inl rfl⟩
    · exact (hs.2 b (Nat.ne_of_lt (Nat.lt_of_lt_of_le (Heap.lt_size e) I.ok.above))).trans (I.base.keep b o e n hb hx)
    · obtain ⟨sl, e1⟩ := I.base.slot b o e n hb hx
      exact ⟨sl, (hs.2 b (Nat.ne_of_lt (Nat.lt_of_lt_of_le (Heap.lt_size e) I.ok.above))).trans e1⟩
    · obtain ⟨o', e1⟩ := I.base.there b o e hx
      exact ⟨o', (hs.2 b (Nat.ne_of_lt (Nat.lt_of_lt_of_le (Heap.lt_size e) I.ok.above))).trans e1⟩
    · by_cases hj : j = i
      · subst hj
        rw [hi] at e1; cases e1
        rw [List.getElem?_set_self hiσ] at e2
        cases e2
        exact ⟨u, r, .inl ⟨hk, by simp⟩⟩
      · rw [List.getElem?_set_ne (Ne.symm hj)] at e2
        obtain ⟨u', r', q⟩ := hl j y v' e1 e2 e3
        refine ⟨u', r', ?_⟩
        rcases q with ⟨k, e⟩ | ⟨k, c, e, z⟩
        · refine .inl ⟨k, ?_⟩
          have : y ≠ x := fun e => hj (nodup_ix hN e1 (e ▸ hi))
          simp [this, e]
        · exact .inr ⟨k, c, e, z.sameBut hs (cne y c e)⟩
    · obtain ⟨w', z⟩ := I.cell y c e
      exact ⟨w', z.sameBut hs (cne y c e)⟩
    · obtain ⟨e, n, ne, nf, d⟩ := I.pin p hp
      exact ⟨(hs.2 p.1 ne).trans e, n, ne, nf, d⟩
  · have hfn : X.fn x = true := by
      rcases hf with z | z
      · exact z
      · rw [z] at hk; cases hk
    obtain ⟨c, hc⟩ := I.ok.has x (.inl hk)
    obtain ⟨w', z⟩ := I.cell x c hc
    refine wpAny_storeName_cell I.ok.kind hk hc z (fun h' hc' hs => ?_)
    obtain ⟨oc, hoc, hocd⟩ := id z
    refine h { s with heap := h' } ⟨I.ok, I.os, I.bare, ⟨fun b o e n hb hx => ?_, fun b o e n hb hx => ?_, I.base.free, fun b o e hx => ?_, I.base.tups, I.base.frzs, I.base.tbls⟩, ⟨m, hn.sameBut hs (Ne.symm (cne x c hc)), fun j y v' e1 e2 e3 => ?_⟩, fun y c' e => ?_, I.free, I.freeC, fun p hp => ?_, tracked ⟨oc, hoc, I.freeC x c hc⟩ hs, by simpa using I.len⟩ ⟨c, hs, .inr hc⟩
    · exact (hs.2 b (Nat.ne_of_lt (Nat.lt_of_lt_of_le (Heap.lt_size e) (I.ok.cab x c hfn hc)))).trans (I.base.keep b o e n hb hx)
    · obtain ⟨sl, e1⟩ := I.base.slot b o e n hb hx
      exact ⟨sl, (hs.2 b (Nat.ne_of_lt (Nat.lt_of_lt_of_le (Heap.lt_size e) (I.ok.cab x c hfn hc)))).trans e1⟩
    · obtain ⟨o', e1⟩ := I.base.there b o e hx
      exact ⟨o', (hs.2 b (Nat.ne_of_lt (Nat.lt_of_lt_of_le (Heap.lt_size e) (I.ok.cab x c hfn hc)))).trans e1⟩
    · by_cases hj : j = i
      · subst hj
        rw [hi] at e1; cases e1
        rw [List.getElem?_set_self hiσ] at e2
        cases e2
        exact ⟨u, r, .inr ⟨.inl hk, c, hc, hc'⟩⟩
      · rw [List.getElem?_set_ne (Ne.symm hj)] at e2
        obtain ⟨u', r', q⟩ := hl j y v' e1 e2 e3
        refine ⟨u', r', ?_⟩
        rcases q with q | ⟨k, c', e, z'⟩
        · exact .inl q
        · refine .inr ⟨k, c', e, z'.sameBut hs ?_⟩
          rintro rfl
          exact hj (nodup_ix hN e1 (I.ok.inj _ _ _ e hc ▸ hi))
    · by_cases hcc : c' = c
      · subst hcc; exact ⟨_, hc'⟩
      · obtain ⟨w2, z2⟩ := I.cell y c' e
        exact ⟨w2, z2.sameBut hs hcc⟩
    · obtain ⟨e, n, ne, nf, d⟩ := I.pin p hp
      refine ⟨(hs.2 p.1 ?_).trans e, n, ne, nf, d⟩
      intro q
      rw [q, hoc] at e
      have q' : oc = p.2 := Option.some.inj e
      exact d w' (by rw [← q']; exact hocd)
theorem store_ok {M : Model} {A : Around} {E : Value → Shared → Prop} {i : Nat} {x : Str} {v : V} {u : Value} {Q : Unit → Shared → Prop} (I : Inv X pins σ H s) (hN : X.N.Nodup) (hi : X.N[i]? = some x) (hx : Loc X.env.scope x) (r : RelV v u)
    (h : ∀ s', Inv X pins (σ.set i (some v)) H s' → Q () s') (hf : X.fn x = true ∨ X.env.scope.names.lookup x = some .local := by first | exact .inl rfl | exact .inr rfl | assumption) : wpAny M A (storeName X.env x u) Q E s :=
  store_ok2 I hN hi hx r (fun s' I' _ => h s' I') hf
/-- behind a call or a block, the state as it is -/
theorem Inv.call' {s' : Shared} {ch : List Addr} (I : Inv X pins σ H s) (ho : s'.os = s.os) (u : Un (frs X.stack) ch H H' s.heap s'.heap) (hok : HOk X.prog X.w H' s'.heap) (hg : AllBare s'.gens)
    (hch : ∀ b ∈ ch, (b ∈ X.ex ∨ X.s_0.heap.objs.size ≤ b) ∧ b ≠ X.env.locals ∧ (∀ x c, X.env.cells.lookup x = some c → c ≠ b) ∧ ∀ p ∈ X.pn ++ pins, p.1 ≠ b) : Inv X pins σ H' s' := by
  obtain ⟨h', g', d', t', o'⟩ := s'
  have e : o' = s.os := ho
  subst e
  exact I.call (g' := g') (t' := t') (d' := d') u hok hg hch
end

/-! ### the judgements -/
/-- an exception: its class, its own dict's address (where it has one), the abstract heap behind it -/
abbrev XK := Value → Option Addr → Hp → Prop
abbrev St := List (Option V)
abbrev VK := V → Hp → Prop
/-- an expression's reading; a test's; an argument list's -/
abbrev TE := St → Hp → VK → Prop
abbrev TT := St → Hp → (Bool → Hp → Prop) → Prop
abbrev TA := St → Hp → (List V → Hp → Prop) → Prop
/-- what is wanted behind a statement -/
structure Ends where
  nx : St → Hp → Prop
  rt : VK
  bk : St → Hp → Prop := fun _ _ => False
  ct : St → Hp → Prop := fun _ _ => False
abbrev TS := Ends → St → Hp → Prop

def EP (X : Cx) (pins : List (Addr × Obj)) (σ : St) (Q : VK) (u : Value) (s' : Shared) : Prop := ∃ v H', Inv X pins σ H' s' ∧ RelV v u ∧ Q v H'
def TP (X : Cx) (pins : List (Addr × Obj)) (σ : St) (Q : Bool → Hp → Prop) (b : Bool) (s' : Shared) : Prop := ∃ H', Inv X pins σ H' s' ∧ Q b H'
def AP (X : Cx) (pins : List (Addr × Obj)) (σ : St) (Q : List V → Hp → Prop) (us : List Value) (s' : Shared) : Prop := ∃ vs H', Inv X pins σ H' s' ∧ Vals vs us ∧ Q vs H'
def SP (X : Cx) (pins : List (Addr × Obj)) (D : Ends) (f : Flow) (s' : Shared) : Prop :=
  match f with
  | .next => ∃ σ' H', Inv X pins σ' H' s' ∧ D.nx σ' H'
  | .brk => ∃ σ' H', Inv X pins σ' H' s' ∧ D.bk σ' H'
  | .cont => ∃ σ' H', Inv X pins σ' H' s' ∧ D.ct σ' H'
  | .ret u => ∃ v σ' H', Inv X pins σ' H' s' ∧ RelV v u ∧ D.rt v H'

def PE (X : Cx) (e : Expr) (t : TE) : Prop :=
  ∀ (pins : List (Addr × Obj)) (s : Shared) (σ : St) (H : Hp) (Q : VK), Inv X pins σ H s → t σ H Q → wpAny (model X.prog X.w) X.A (eval e X.env) (EP X pins σ Q) X.xe s
def PT (X : Cx) (e : Expr) (t : TT) : Prop :=
  ∀ (pins : List (Addr × Obj)) (s : Shared) (σ : St) (H : Hp) (Q : Bool → Hp → Prop), Inv X pins σ H s → t σ H Q → wpAny (model X.prog X.w) X.A (isTrue e X.env (eval e X.env)) (TP X pins σ Q) X.xe s
/-- a test whatever its 'whole' is (and, or) -/
def PW (X : Cx) (e : Expr) (t : TT) : Prop :=
  ∀ (whole : Sem Value) (pins : List (Addr × Obj)) (s : Shared) (σ : St) (H : Hp) (Q : Bool → Hp → Prop), Inv X pins σ H s → t σ H Q → wpAny (model X.prog X.w) X.A (isTrue e X.env whole) (TP X pins σ Q) X.xe s
theorem PW.pt {X : Cx} {e : Expr} {t : TT} (h : PW X e t) : PT X e t := h _
/-- an argument list (no star), from the left -/
def PA (X : Cx) (es : List Expr) (t : TA) : Prop :=
  ∀ (pos : Pos) (pins : List (Addr × Obj)) (s : Shared) (σ : St) (H : Hp) (Q : List V → Hp → Prop), Inv X pins σ H s → t σ H Q → wpAny (model X.prog X.w) X.A (spliced (backTo pos (starEach es X.env))) (AP X pins σ Q) X.xe s
def PS (X : Cx) (st : Stmt) (t : TS) : Prop :=
  ∀ (pins : List (Addr × Obj)) (s : Shared) (σ : St) (H : Hp) (D : Ends), Inv X pins σ H s → t D σ H → wpAny (model X.prog X.w) X.A (exec st X.env) (SP X pins D) X.xe s
def PSs (X : Cx) (st : List Stmt) (t : TS) : Prop :=
  ∀ (pins : List (Addr × Obj)) (s : Shared) (σ : St) (H : Hp) (D : Ends), Inv X pins σ H s → t D σ H → wpAny (model X.prog X.w) X.A (execs st X.env) (SP X pins D) X.xe s
/-- weaken the end -/
theorem thn {α : Type} {t : Sem α} {Q Q' : α → Shared → Prop} {M : Model} {A : Around} {E : Value → Shared → Prop} {s : Shared} (h : wpAny M A t Q E s) (hQ : ∀ a s, Q a s → Q' a s) : wpAny M A t Q' E s := wpAny_mono h hQ fun _ _ x => x
end L2

namespace L2
open PySem PySem.Spec PyProof.Rows
section
variable {X : Cx}

/-! ### names and constants -/
def tVar (i : Nat) : TE := fun σ H Q => ∃ v, σ[i]? = some (some v) ∧ Q v H
def tC (v : V) : TE := fun _ H Q => Q v H
theorem pe_var {i : Nat} {x : Str} {pos : Pos} (hN : X.N[i]? = some x) (hv : Vis X.env.scope x) (hd : (x == ("__debug__" : Str)) = false := by decide) (hcd : (x == ("__classdict__" : Str)) = false := by decide) : PE X (.Name x pos) (tVar i) := by
  intro pins s σ H Q I h
  obtain ⟨v, e, h⟩ := h
  obtain ⟨m, hn, hl⟩ := I.loc
  obtain ⟨u, r, l⟩ := hl i x v hN e hv
  have fin : EP X pins σ Q u s := ⟨v, H, I, r, h⟩
  rcases l with ⟨hk, hm⟩ | ⟨hk, c, hc, hcell⟩
  · exact wpAny_Name (wpAny_loadName_local I.ok.kind hk hn hm fin) hd
  · rcases hk with hk | hk
    · exact wpAny_Name (wpAny_loadName_cell I.ok.kind hk hc hcell fin) hd
    · exact wpAny_Name (wpAny_loadName_free I.ok.kind hk hc hcell fin hcd) hd
theorem pe_int {i j pos} : PE X (.Constant (.int i) j pos) (tC (.int i)) := fun _ _ _ H _ I h => wpAny_Constant_int ⟨.int i, H, I.tok _, ⟨_, rfl⟩, h⟩
theorem pe_non {j pos} : PE X (.Constant .none j pos) (tC .non) := fun _ _ _ H _ I h => Constant_none ⟨.non, H, I, rfl, h⟩
theorem pe_str {x j pos} : PE X (.Constant (.str x) j pos) (tC (.str x)) := fun _ _ _ H _ I h => Calls.Constant_str ⟨.str x, H, I.tok _, ⟨_, rfl⟩, h⟩

/-- a global name of the def -/
def Gl (X : Cx) (x : Str) : Prop := X.env.kindOf x = some .globalImplicit
theorem ld_glob {E : Value → Shared → Prop} {pins : List (Addr × Obj)} {s : Shared} {σ : St} {H : Hp} {x : Str} {u : Value} {pos : Pos} {Q : Value → Shared → Prop} (I : Inv X pins σ H s) (hg : Gl X x) (hm : X.mg x = some u) (h : Q u s)
    (hd : (x == ("__debug__" : Str)) = false := by decide) : wpAny (model X.prog X.w) X.A (eval (.Name x pos) X.env) Q E s :=
  Calls.Name_function_global I.ok.kind hg (Calls.loadGlobal_global (by rw [I.ok.glob]; exact I.mod.glob.keeps I.bk) hm h) hd
theorem ld_blt {E : Value → Shared → Prop} {pins : List (Addr × Obj)} {s : Shared} {σ : St} {H : Hp} {x : Str} {u : Value} {pos : Pos} {Q : Value → Shared → Prop} (I : Inv X pins σ H s) (hg : Gl X x) (hm : X.mg x = none) (hv : bootBuiltins x = some u) (h : Q u s)
    (hn : x ≠ "__name__" := by decide) (hd : (x == ("__debug__" : Str)) = false := by decide) : wpAny (model X.prog X.w) X.A (eval (.Name x pos) X.env) Q E s := by
  obtain ⟨mb, h1, h2⟩ := I.mod.blt
  exact Calls.Name_function_global I.ok.kind hg (Calls.loadGlobal_builtin (by rw [I.ok.glob]; exact I.mod.glob.keeps I.bk) hm (by rw [I.ok.blt]; exact h1.keeps I.bk) ((h2 x hn).trans hv) h) hd
/-- a module's constant, a class, a function, as a value -/
theorem pe_glob {x : Str} {v : V} {u : Value} {pos : Pos} (hg : Gl X x) (hm : X.mg x = some u) (r : RelV v u) (hd : (x == ("__debug__" : Str)) = false := by decide) : PE X (.Name x pos) (tC v) :=
  fun _ _ _ H _ I h => ld_glob I hg hm ⟨v, H, I, r, h⟩ hd
variable {a b : Expr} {ta tb : TE} {pos : Pos}
/-- a comparison as a value, as a test -/
def tB (t : TE) : TT := fun σ H Q => t σ H fun x H1 => ∃ c, x = .bl c ∧ Q c H1
/-- an expression whose value is a bool, as a test -/
theorem pt_val {e : Expr} {t : TE} (h : PE X e t) (he : ∀ whole, isTrue e X.env whole = (do let v ← whole; standAt e.pos; holding [v] (truthy v)) := by intro _; rfl) : PT X e (tB t) := by
  intro pins s σ H Q I hw
  refine isTrue_plain (thn (h pins s σ H _ I hw) fun v s1 ⟨x, H1, I1, r1, q1⟩ => ?_) (he _)
  obtain ⟨d, rfl, q⟩ := q1
  cases r1
  exact wpAny_truthy_bool ⟨H1, I1, q⟩

/-! ### and, or, not -/
variable {tA tB' : TT} {rest : List Expr}
def tAnd (t u : TT) : TT := fun σ H Q => t σ H fun c H1 => if c = true then u σ H1 Q else Q false H1
def tOr (t u : TT) : TT := fun σ H Q => t σ H fun c H1 => if c = true then Q true H1 else u σ H1 Q
def tNot (t : TT) : TT := fun σ H Q => t σ H fun c H1 => Q (!c) H1
theorem pw_and1 (ha : PT X a tA) : PW X (.BoolOp .And [a] pos) tA := by
  intro wh pins s σ H Q I h
  refine isTrue_and (thn (ha pins s σ H Q I h) fun c s1 e => ?_)
  cases c with
  | true => exact isTrue_and_nil e
  | false => exact e
theorem pw_or1 (ha : PT X a tA) : PW X (.BoolOp .Or [a] pos) tA := by
  intro wh pins s σ H Q I h
  refine isTrue_or (thn (ha pins s σ H Q I h) fun c s1 e => ?_)
  cases c with
  | false => exact isTrue_or_nil e
  | true => exact e
theorem pw_and (ha : PT X a tA) (hb : PW X (.BoolOp .And (b :: rest) pos) tB') : PW X (.BoolOp .And (a :: b :: rest) pos) (tAnd tA tB') := by
  intro wh pins s σ H Q I h
  refine isTrue_and (thn (ha pins s σ H _ I h) fun c s1 ⟨H1, I1, q1⟩ => ?_)
  cases c with
  | true => exact hb wh pins s1 σ H1 Q I1 q1
  | false => exact ⟨H1, I1, q1⟩
theorem pw_or (ha : PT X a tA) (hb : PW X (.BoolOp .Or (b :: rest) pos) tB') : PW X (.BoolOp .Or (a :: b :: rest) pos) (tOr tA tB') := by
  intro wh pins s σ H Q I h
  refine isTrue_or (thn (ha pins s σ H _ I h) fun c s1 ⟨H1, I1, q1⟩ => ?_)
  cases c with
  | true => exact ⟨H1, I1, q1⟩
  | false => exact hb wh pins s1 σ H1 Q I1 q1
theorem pt_not (ha : PT X a tA) : PT X (.UnaryOp .Not a pos) (tNot tA) := by
  intro pins s σ H Q I h
  exact isTrue_not (ha pins s σ H (fun c H1 => Q (!c) H1) I h)
/-- .. as values (bools) -/
def tAndV (ta tb : TE) : TE := fun σ H Q => ta σ H fun x H1 => ∃ c, x = .bl c ∧ if c = true then tb σ H1 Q else Q (.bl false) H1
def tOrV (ta tb : TE) : TE := fun σ H Q => ta σ H fun x H1 => ∃ c, x = .bl c ∧ if c = true then Q (.bl true) H1 else tb σ H1 Q
theorem pe_one {op} {t : TE} (h : PE X a t) : PE X (.BoolOp op [a] pos) t := fun pins s σ H Q I hw => BoolOp_one (h pins s σ H Q I hw)
theorem pe_and (ha : PE X a ta) (hb : PE X (.BoolOp .And (b :: rest) pos) tb) : PE X (.BoolOp .And (a :: b :: rest) pos) (tAndV ta tb) := by
  intro pins s σ H Q I h
  refine BoolOp_and (thn (ha pins s σ H _ I h) fun v s1 ⟨x, H1, I1, r1, q1⟩ => ?_)
  obtain ⟨c, rfl, q1⟩ := q1
  cases r1
  refine wpAny_truthy_bool ?_
  cases c with
  | true => exact hb pins s1 σ H1 Q I1 q1
  | false => exact ⟨.bl false, H1, I1, rfl, q1⟩
theorem pe_or (ha : PE X a ta) (hb : PE X (.BoolOp .Or (b :: rest) pos) tb) : PE X (.BoolOp .Or (a :: b :: rest) pos) (tOrV ta tb) := by
  intro pins s σ H Q I h
  refine BoolOp_or (thn (ha pins s σ H _ I h) fun v s1 ⟨x, H1, I1, r1, q1⟩ => ?_)
  obtain ⟨c, rfl, q1⟩ := q1
  cases r1
  refine wpAny_truthy_bool ?_
  cases c with
  | false => exact hb pins s1 σ H1 Q I1 q1
  | true => exact ⟨.bl true, H1, I1, rfl, q1⟩
/-- a if t else b -/
def tIf (t : TT) (ta tb : TE) : TE := fun σ H Q => t σ H fun c H1 => if c = true then ta σ H1 Q else tb σ H1 Q
theorem pe_ifExp {c : Expr} (hc : PT X c tA) (ha : PE X a ta) (hb : PE X b tb) : PE X (.IfExp c a b pos) (tIf tA ta tb) := by
  intro pins s σ H Q I h
  refine wpAny_IfExp (thn (hc pins s σ H _ I h) fun d s1 ⟨H1, I1, q1⟩ => ?_)
  cases d with
  | true => exact ha pins s1 σ H1 Q I1 q1
  | false => exact hb pins s1 σ H1 Q I1 q1
end
end L2

namespace L2
open PySem PySem.Spec PyProof.Rows

/-! ### a list, a tuple that is read: tracked, frozen, or an object of the module -/
def SqL (K : PySem.W.Frag) (H : Hp) (a : Addr) (xs : List V) : Prop :=
  Rd H a (.lst xs) ∨
    ∃ (o : Obj) (its : Array Value) (n : Nat), K.lookup a = some o ∧ o.cls = .type "list" ∧ o.dict = none ∧ o.data = .seq its n ∧ its.size ≤ sizeLine ∧ Vals xs its.toList
def SqT (K : PySem.W.Frag) (H : Hp) (a : Addr) (xs : List V) : Prop :=
  Rd H a (.tup xs) ∨
    ∃ (o : Obj) (its : Array Value) (n : Nat), K.lookup a = some o ∧ o.cls = .type "tuple" ∧ o.data = .seq its n ∧ its.size ≤ sizeLine ∧ Vals xs its.toList
def absV : Value → Option V
  | .none => some .non
  | .bool b => some (.bl b)
  | .int i _ => some (.int i)
  | .str x _ => some (.str x)
  | .bytes b _ => some (.byt b)
  | .float b _ => some (.flt b)
  | .ref a => some (.ref a)
  | .type n => some (.ty n)
  | _ => none
theorem RelV.abs {x : V} {u : Value} (r : RelV x u) : absV u = some x := by
  cases x with
  | non => cases r; rfl
  | bl _ => cases r; rfl
  | int _ => obtain ⟨t, rfl⟩ := r; rfl
  | str _ => obtain ⟨t, rfl⟩ := r; rfl
  | byt _ => obtain ⟨t, rfl⟩ := r; rfl
  | flt _ => obtain ⟨t, rfl⟩ := r; rfl
  | ref _ => cases r; rfl
  | ty _ => cases r; rfl
theorem RelV.inj {x y : V} {u : Value} (r : RelV x u) (q : RelV y u) : x = y := Option.some.inj (r.abs.symm.trans q.abs)
theorem Vals.inj : ∀ {xs ys : List V} {us : List Value}, Vals xs us → Vals ys us → xs = ys
  | _, _, _, .nil, .nil => rfl
  | _, _, _, .cons r t, .cons r' t' => by rw [r.inj r', Vals.inj t t']
section
variable {X : Cx} {pins : List (Addr × Obj)} {σ : St} {H : Hp} {s : Shared} {a : Addr} {xs ys : List V}
theorem SqL.of {K : PySem.W.Frag} (h : H a = some (.lst xs)) : SqL K H a xs := .inl (.inl h)
theorem SqT.of {K : PySem.W.Frag} (h : H a = some (.tup xs)) : SqT K H a xs := .inl (.inl h)
theorem Inv.list (I : Inv X pins σ H s) (h : SqL X.K H a xs) : ∃ its : List Value, Vals xs its ∧ PlainL s.heap a its.toArray ∧ xs.length ≤ sizeLine := by
  rcases h with h | ⟨o, its, n, hk, hc, hd, hs, hz, r⟩
  · obtain ⟨z, its, n, r, e⟩ := h.ok I.hok
    exact ⟨its, r, ⟨_, n, e, rfl, rfl, rfl⟩, z⟩
  · refine ⟨its.toList, r, ⟨o, n, I.kIn a o hk, hc, hd, by simpa using hs⟩, ?_⟩
    have e := r.length
    simp only [Array.length_toList] at e
    omega
theorem Inv.tuple (I : Inv X pins σ H s) (h : SqT X.K H a xs) : ∃ its : List Value, Vals xs its ∧ IsTup s.heap a its.toArray ∧ xs.length ≤ sizeLine := by
  rcases h with h | ⟨o, its, n, hk, hc, hs, hz, r⟩
  · obtain ⟨z, its, r, p⟩ := h.ok I.hok
    exact ⟨its, r, p, z⟩
  · refine ⟨its.toList, r, ⟨o, I.kIn a o hk, hc, n, by simpa using hs⟩, ?_⟩
    have e := r.length
    simp only [Array.length_toList] at e
    omega
theorem Inv.list_inj (I : Inv X pins σ H s) (h : SqL X.K H a xs) (h' : SqL X.K H a ys) : xs = ys := by
  obtain ⟨its, r, ⟨o, n, e, _, _, d⟩, _⟩ := I.list h
  obtain ⟨its', r', ⟨o', n', e', _, _, d'⟩, _⟩ := I.list h'
  rw [e] at e'; cases e'
  rw [d] at d'
  injection d' with d1 _
  have : its = its' := by simpa using congrArg Array.toList d1
  subst this
  exact r.inj r'
end

/-! ### another wish about exceptions -/
abbrev Cx.wish (X : Cx) (E : Value → Shared → Prop) : Cx := { X with xe := E }
/-- no exception leaves -/
abbrev Cx.nox (X : Cx) : Cx := X.wish fun _ _ => False
theorem Cx.Ok.wish {X : Cx} (ok : X.Ok) (E : Value → Shared → Prop) : (X.wish E).Ok :=
  ⟨ok.mod, ok.kind, ok.glob, ok.blt, ok.above, ok.inj, ok.has, ok.cab, ok.hd, ok.frames, ok.stk, ok.exf, ok.bs, ok.bsz, ok.noex, ok.exfs, ok.funs, ok.frf⟩
theorem Cx.Ok.unwish {X : Cx} {E : Value → Shared → Prop} (ok : (X.wish E).Ok) : X.Ok :=
  ⟨ok.mod, ok.kind, ok.glob, ok.blt, ok.above, ok.inj, ok.has, ok.cab, ok.hd, ok.frames, ok.stk, ok.exf, ok.bs, ok.bsz, ok.noex, ok.exfs, ok.funs, ok.frf⟩
section
variable {X : Cx} {pins : List (Addr × Obj)} {σ : St} {H : Hp} {s : Shared} {E : Value → Shared → Prop}
theorem Inv.wish (I : Inv X pins σ H s) (E : Value → Shared → Prop) : Inv (X.wish E) pins σ H s := ⟨I.ok.wish E, I.os, I.bare, I.base, I.loc, I.cell, I.free, I.freeC, I.pin, I.hok, I.len⟩
theorem Inv.unwish (I : Inv (X.wish E) pins σ H s) : Inv X pins σ H s := ⟨I.ok.unwish, I.os, I.bare, I.base, I.loc, I.cell, I.free, I.freeC, I.pin, I.hok, I.len⟩
theorem SP.unwish {D : Ends} {f : Flow} {s' : Shared} (h : SP (X.wish E) pins D f s') : SP X pins D f s' := by
  cases f with
  | next => obtain ⟨σ', H', I, q⟩ := h; exact ⟨σ', H', I.unwish, q⟩
  | brk => obtain ⟨σ', H', I, q⟩ := h; exact ⟨σ', H', I.unwish, q⟩
  | cont => obtain ⟨σ', H', I, q⟩ := h; exact ⟨σ', H', I.unwish, q⟩
  | ret u => obtain ⟨v, σ', H', I, r, q⟩ := h; exact ⟨v, σ', H', I.unwish, r, q⟩
theorem PSs.nox {st : List Stmt} {t : TS} (h : PSs X.nox st t) : PSs X st t := fun pins s σ H D I hw =>
  wpAny_mono (h pins s σ H D (I.wish _) hw) (fun _ _ q => q.unwish) fun _ _ z => False.elim z
end

/-! ### blocks and small statements -/
section
variable {X : Cx} {st : Stmt} {rest : List Stmt} {t u : TS} {e : Expr} {te : TE} {pos : Pos}
def tNext : TS := fun D σ H => D.nx σ H
def tSeq (t u : TS) : TS := fun D σ H => t { D with nx := u D } σ H
theorem pss_nil : PSs X [] tNext := fun _ _ σ H _ I h => wpAny_execs_nil ⟨σ, H, I, h⟩
theorem pss_cons (h1 : PS X st t) (h2 : PSs X rest u) : PSs X (st :: rest) (tSeq t u) := by
  intro pins s σ H D I h
  refine wpAny_execs_cons (thn (h1 pins s σ H { D with nx := u D } I h) fun f s1 q => ?_)
  cases f with
  | next =>
    obtain ⟨σ', H', I', q⟩ := q
    exact h2 pins s1 σ' H' D I' q
  | ret v => exact q
  | brk => exact q
  | cont => exact q
theorem pss_one (h1 : PS X st t) : PSs X [st] t := by
  intro pins s σ H D I h
  refine wpAny_execs_cons (thn (h1 pins s σ H D I h) fun f s1 q => ?_)
  cases f with
  | next => exact wpAny_execs_nil q
  | ret v => exact q
  | brk => exact q
  | cont => exact q
/-- in a def's body nothing is shown -/
theorem Inv.quiet {pins : List (Addr × Obj)} {σ : St} {H : Hp} {s : Shared} (I : Inv X pins σ H s) : interactive X.env = false := by simp [interactive, I.ok.kind]
/-- an expression whose value is dropped -/
def tDrop (te : TE) : TS := fun D σ H => te σ H fun _ H1 => D.nx σ H1
theorem ps_expr (he : PE X e te) (hs : swapsWith e none pos.line X.env = pure false := by rfl) : PS X (.Expr e pos) (tDrop te) := by
  intro pins s σ H D I h
  exact wpAny_Expr_any (thn (he pins s σ H _ I h) fun v s1 ⟨x, H1, I1, r1, q1⟩ => ⟨σ, H1, I1, q1⟩) I.quiet hs
def tRet (te : TE) : TS := fun D σ H => te σ H D.rt
theorem ps_ret (he : PE X e te) : PS X (.Return (some e) pos) (tRet te) := by
  intro pins s σ H D I h
  exact wpAny_Return_some (thn (he pins s σ H _ I h) fun v s1 ⟨x, H1, I1, r1, q1⟩ => ⟨x, σ, H1, I1, r1, q1⟩)
def tIfS (c : TT) (t u : TS) : TS := fun D σ H => c σ H fun b H1 => if b = true then t D σ H1 else u D σ H1
theorem ps_if {c : Expr} {a b : List Stmt} {tc : TT} (hc : PT X c tc) (ha : PSs X a t) (hb : PSs X b u) : PS X (.If c a b pos) (tIfS tc t u) := by
  intro pins s σ H D I h
  refine wpAny_If (thn (hc pins s σ H _ I h) fun d s1 ⟨H1, I1, q1⟩ => ?_)
  cases d with
  | true => exact ha pins s1 σ H1 D I1 q1
  | false => exact hb pins s1 σ H1 D I1 q1
end

/-! ### targets -/
abbrev TG := V → St → Hp → (St → Hp → Prop) → Prop
def PG (X : Cx) (target : Expr) (t : TG) : Prop :=
  ∀ (pins : List (Addr × Obj)) (s : Shared) (σ : St) (H : Hp) (v : V) (u : Value) (Q : St → Hp → Prop), Inv X pins σ H s → RelV v u → t v σ H Q →
    wpAny (model X.prog X.w) X.A (assign target X.env u) (fun _ s' => ∃ σ' H', Inv X pins σ' H' s' ∧ Q σ' H') X.xe s
section
variable {X : Cx} {pos : Pos}
def gName (i : Nat) : TG := fun v σ H Q => Q (σ.set i (some v)) H
theorem pg_name {i : Nat} {x : Str} (hN : X.N.Nodup) (hi : X.N[i]? = some x) (hx : Loc X.env.scope x) (hf : X.fn x = true ∨ X.env.scope.names.lookup x = some .local := by first | exact .inl rfl | exact .inr rfl | assumption) : PG X (.Name x pos) (gName i) := by
  intro pins s σ H v u Q I r h
  exact wpAny_assign_Name (store_ok I hN hi hx r (fun s' I' => ⟨_, H, I', h⟩) hf)
/-- target = value -/
def tAsg (te : TE) (g : TG) : TS := fun D σ H => te σ H fun x H1 => g x σ H1 D.nx
/-- name = value -/
theorem ps_set {i : Nat} {x : Str} {e : Expr} {te : TE} {pos' : Pos} (hN : X.N.Nodup) (hi : X.N[i]? = some x) (hx : Loc X.env.scope x) (he : PE X e te) (hs : swapsWith e (some (.Name x pos')) pos.line X.env = pure false := by rfl) (hf : X.fn x = true ∨ X.env.scope.names.lookup x = some .local := by first | exact .inl rfl | exact .inr rfl | assumption) :
    PS X (.Assign [.Name x pos'] e pos) (tAsg te (gName i)) := by
  intro pins s σ H D I h
  refine wpAny_Assign_Name (thn (he pins s σ H _ I h) fun v s1 ⟨y, H1, I1, r1, q1⟩ => ?_) hs
  exact store_ok I1 hN hi hx r1 (fun s2 I2 => ⟨_, H1, I2, q1⟩) hf
end

/-! ### while -/
section
variable {X : Cx} {pos : Pos}
/-- the invariant W with its measure -/
def tWhile (c : TT) (tb : TS) : TS := fun D σ H => ∃ W : Nat → St → Hp → Prop, (∃ m, W m σ H) ∧ ∀ m σ H, W m σ H →
  c σ H fun b H1 => if b = true then ∃ N : St → Hp → Prop, (∀ σ' H', N σ' H' → ∃ m', m' < m ∧ W m' σ' H') ∧ tb { D with nx := N, ct := N, bk := D.nx } σ H1 else D.nx σ H1
theorem ps_while {c : Expr} {body : List Stmt} {tc : TT} {tb : TS} (hp : PassesOwn (model X.prog X.w) X.A X.env X.xe) (hc : PT X c tc) (hb : PSs X body tb) : PS X (.While c body [] pos) (tWhile tc tb) := by
  intro pins s σ H D I h
  obtain ⟨W, ⟨m0, w0⟩, turn⟩ := h
  refine wpAny_While (codeAny_whileLoop (fun n s' => ∃ σ' H', Inv X pins σ' H' s' ∧ W n σ' H') ?_ m0 ⟨σ, H, I, w0⟩)
  rintro n s1 ⟨σ1, H1, I1, w1⟩
  refine wpAny_passesOwn hp (thn (hc pins s1 σ1 H1 _ I1 (turn n σ1 H1 w1)) fun b s2 ⟨H2, I2, q2⟩ => ?_)
  cases b with
  | true =>
    obtain ⟨N, hN, q2⟩ := q2
    rw [if_pos rfl]
    refine wpAny_passesOwn hp (thn (hb pins s2 σ1 H2 _ I2 q2) fun f s3 q3 => ?_)
    cases f with
    | next =>
      obtain ⟨σ3, H3, I3, n3⟩ := q3
      obtain ⟨m', hm, w3⟩ := hN σ3 H3 n3
      exact ⟨m', hm, σ3, H3, I3, w3⟩
    | cont =>
      obtain ⟨σ3, H3, I3, n3⟩ := q3
      obtain ⟨m', hm, w3⟩ := hN σ3 H3 n3
      exact ⟨m', hm, σ3, H3, I3, w3⟩
    | brk => exact q3
    | ret v => exact q3
  | false =>
    rw [if_neg Bool.false_ne_true]
    exact wpAny_execs_nil ⟨σ1, H2, I2, q2⟩
end

/-! ### what a loop or a comprehension walks -/
/-- at turn i: it yields x (the heap may grow), or it stops -/
structure It where
  go : Nat → Hp → Prop
  yld : Nat → Hp → V → Hp → Prop
  stop : Nat → Hp → Prop
/-- the iterator's own objects may turn: they are not the frame's, not pinned, younger than the entry (or a comprehension's own) -/
def FpOk (X : Cx) (pins : List (Addr × Obj)) (H : Hp) (b : Addr) : Prop :=
  H b = none ∧ b ≠ X.env.locals ∧ b ∉ X.fs ∧ (b ∈ X.ex ∨ X.s_0.heap.objs.size ≤ b) ∧ (∀ x c, X.env.cells.lookup x = some c → c ≠ b) ∧ ∀ p ∈ X.pn ++ pins, p.1 ≠ b
theorem Inv.fpOk {X : Cx} {pins : List (Addr × Obj)} {σ : St} {H H' : Hp} {s : Shared} {b : Addr} (I : Inv X pins σ H s) (hb : s.heap.objs.size ≤ b) (hn : H' b = none) : FpOk X pins H' b := by
  refine ⟨hn, Nat.ne_of_gt (Nat.lt_of_lt_of_le I.lt hb), I.nofs hb, .inr (Nat.le_trans I.sz hb), fun x c e z => ?_, fun p hp z => ?_⟩
  · obtain ⟨v, q⟩ := I.cell x c e
    exact absurd (Nat.lt_of_lt_of_le q.lt (by rw [z]; exact hb)) (Nat.lt_irrefl _)
  · exact absurd (Nat.lt_of_lt_of_le (Heap.lt_size (I.pin p hp).1) (by rw [z]; exact hb)) (Nat.lt_irrefl _)
structure Turn (P : Program) (w : World) (K : PySem.W.Frag) (tg : Expr) (J : It) (fp : List Addr) (it : Addr) (tn : Nat → Heap → Prop) : Prop where
  mem : it ∈ fp
  obj : ∀ i h, tn i h → ∀ b ∈ fp, ∃ o, h.get? b = some o ∧ ∀ v, o.data ≠ .cell v
  keep : ∀ i h h', tn i h → (∀ b ∈ fp, ∀ o, h.get? b = some o → h'.get? b = some o) → tn i h'
  item : ∀ (X : Cx), X.prog = P → X.w = w → X.K = K → X.calm = true → ∀ (i : Nat) (pins : List (Addr × Obj)) (s : Shared) (σ : St) (H : Hp) (E : Value → Shared → Prop), Inv X pins σ H s → (∀ b ∈ fp, FpOk X pins H b) → tn i s.heap → J.go i H →
    wpAny (model P w) X.A (pyNext (.ref it)) (fun r s1 => ∃ u, r = some u ∧
      wpAny (model P w) X.A (letOwnedTupleGo tg (.ref it) u) (fun _ s2 => ∃ x H', Inv X pins σ H' s2 ∧ RelV x u ∧ J.yld i H x H' ∧ tn (i + 1) s2.heap ∧ ∀ b ∈ fp, H' b = none) E s1) E s
  done : ∀ (X : Cx), X.prog = P → X.w = w → X.K = K → X.calm = true → ∀ (i : Nat) (pins : List (Addr × Obj)) (s : Shared) (σ : St) (H : Hp) (E : Value → Shared → Prop), Inv X pins σ H s → (∀ b ∈ fp, FpOk X pins H b) → tn i s.heap → J.stop i H →
    wpAny (model P w) X.A (pyNext (.ref it)) (fun r s1 => r = none ∧ Inv X pins σ H s1) E s
  self : ∀ (A : Around) (i : Nat) (s : Shared) (Q : Value → Shared → Prop) (E : Value → Shared → Prop), tn i s.heap → Q (.ref it) s → wpAny (model P w) A (pyIter (.ref it)) Q E s
abbrev TI := St → Hp → (It → Hp → Prop) → Prop
/-- an iterator has come -/
def PIE (X : Cx) (pins : List (Addr × Obj)) (σ : St) (tg : Expr) (R : It → Hp → Prop) (itv : Value) (s2 : Shared) : Prop :=
  ∃ (it : Addr) (fp : List Addr) (tn : Nat → Heap → Prop) (J : It) (H' : Hp), itv = .ref it ∧ Inv X pins σ H' s2 ∧ Turn X.prog X.w X.K tg J fp it tn ∧ tn 0 s2.heap ∧ (∀ b ∈ fp, FpOk X pins H' b) ∧ R J H'
def PI (X : Cx) (tg iter : Expr) (wi : TI) : Prop :=
  ∀ (pins : List (Addr × Obj)) (s : Shared) (σ : St) (H : Hp) (R : It → Hp → Prop), Inv X pins σ H s → wi σ H R →
    wpAny (model X.prog X.w) X.A (eval iter X.env) (fun v s1 => wpAny (model X.prog X.w) X.A (pyIter v) (PIE X pins σ tg R) X.xe s1) X.xe s

/-- the step ahead of the store is nothing for an iterator that keeps no tuple -/
theorem go_of {M : Model} {A : Around} {E : Value → Shared → Prop} {s : Shared} {tg : Expr} {it : Addr} {u : Value} {o : Obj} {n : String} {vs : Array Value} {Q : Unit → Shared → Prop} (ho : s.heap.get? it = some o) (hc : o.cls = .type n) (hd : o.data = .fields vs)
    (hn : ["enumerate", "zip", "dict_itemiterator", "dict_reverseitemiterator", "odict_iterator", "itertools.zip_longest", "itertools.pairwise"].contains n = false) (hQ : Q () s) : wpAny M A (letOwnedTupleGo tg (.ref it) u) Q E s := by
  unfold letOwnedTupleGo
  cases tg <;> first
    | exact wpAny_pure hQ
    | (cases u <;> first
        | exact wpAny_pure hQ
        | (refine wpAny_bind (wpAny_load ho ?_)
           rw [hc, hd]
           show wpAny M A (if (["enumerate", "zip", "dict_itemiterator", "dict_reverseitemiterator", "odict_iterator", "itertools.zip_longest", "itertools.pairwise"].contains n && vs[0]? == some (rawInt _)) = true then _ else _) Q E s
           rw [if_neg (by intro h; rw [hn, Bool.false_and] at h; cases h)]
           exact wpAny_pure hQ))

/-- the list at a, as it stands at each turn (a loop may append to it) -/
def Itl (K : PySem.W.Frag) (a : Addr) : It :=
  ⟨fun i H => ∃ xs x, SqL K H a xs ∧ xs[i]? = some x, fun i H x H' => H' = H ∧ ∀ xs, SqL K H a xs → xs[i]? = some x, fun i H => ∃ xs, SqL K H a xs ∧ xs.length ≤ i⟩
/-- lo, lo + 1, .. (n of them) -/
def Itr (lo : Int) (n : Nat) : It := ⟨fun i _ => i < n, fun i H x H' => H' = H ∧ x = .int (lo + i), fun i _ => n ≤ i⟩
theorem turn_list {P : Program} {w : World} {K : PySem.W.Frag} {tg : Expr} (a it : Addr) : Turn P w K tg (Itl K a) [it] it (fun i h => h.IsListIter it a i) where
  mem := by simp
  obj := fun i h st b hb => by
    have e : b = it := by simpa using hb
    subst e
    obtain ⟨o, e, c, d⟩ := st
    exact ⟨o, e, fun v z => by rw [d] at z; cases z⟩
  keep := fun i h h' st k => st.at fun o e => k it (by simp) o e
  item := by
    intro X hP hw hK hc i pins s σ H E I hf st hg
    subst hP hw hK
    obtain ⟨xs, x, hq, hx⟩ := hg
    obtain ⟨its, rv, p, hz⟩ := I.list hq
    obtain ⟨u, hu, ru⟩ := rv.get hx
    obtain ⟨f0, f1, f2, f3, f4, f5⟩ := hf it (by simp)
    refine wpAny_pyNext_list_item st p.isList (x := u) (by simpa using hu) fun h' st' sb => ?_
    have I1 : Inv X pins σ H { s with heap := h' } := I.turned (t' := s.toks) (fun b o hb e => (sb.2 b hb).trans e) f0 f1 f3 f4 f5
    obtain ⟨o, e, c, d⟩ := id st'
    exact ⟨u, rfl, go_of (s := { s with heap := h' }) e c d (by decide) ⟨x, H, I1, ru, ⟨rfl, fun ys hy => by rw [I.list_inj hy hq]; exact hx⟩, st', fun b hb => (hf b hb).1⟩⟩
  done := by
    intro X hP hw hK hc i pins s σ H E I hf st hg
    subst hP hw hK
    obtain ⟨xs, hq, hx⟩ := hg
    obtain ⟨its, rv, p, hz⟩ := I.list hq
    obtain ⟨f0, f1, f2, f3, f4, f5⟩ := hf it (by simp)
    have hl := rv.length
    exact wpAny_pyNext_list_end (I.ok.hd hc) st p.isList (by simp; omega) fun h' eb => ⟨rfl, I.turned (t' := s.toks) (fun b o hb e => eb b o hb e) f0 f1 f3 f4 f5⟩
  self := fun _ _ _ _ _ st h => wpAny_pyIter_listiter st h
theorem turn_range {P : Program} {w : World} {K : PySem.W.Frag} {tg : Expr} (it : Addr) (lo : Int) (n : Nat) : Turn P w K tg (Itr lo n) [it] it (fun i h => IsRangeIter h it (lo + (i : Nat) * 1) ((n : Int) - (i : Nat)) 1) where
  mem := by simp
  obj := fun i h st b hb => by
    have e : b = it := by simpa using hb
    subst e
    exact ⟨_, st, fun v z => by
      have z' : Data.fields _ = Data.cell v := z
      cases z'⟩
  keep := fun i h h' st k => k it (by simp) _ st
  item := by
    intro X hP hw hK hc i pins s σ H E I hf st hg
    subst hP hw hK
    obtain ⟨f0, f1, f2, f3, f4, f5⟩ := hf it (by simp)
    have W := Walks.range (prog := X.prog) (w := X.w) (I.ok.hd hc) it lo 1 n
    refine W.item i s _ _ hg st fun v h' tk hv st' kk => ?_
    obtain ⟨t, rfl⟩ := hv
    have I1 : Inv X pins σ H { s with heap := h', toks := tk } := I.turned (fun b o hb e => kk b o (by simpa using hb) e) f0 f1 f3 f4 f5
    refine ⟨_, rfl, go_of (s := { s with heap := h', toks := tk }) (n := "range_iterator") st' rfl rfl (by decide) ⟨.int (lo + i), H, I1, ⟨t, ?_⟩, ⟨rfl, rfl⟩, st', fun b hb => (hf b hb).1⟩⟩
    rw [Int.mul_one]
  done := by
    intro X hP hw hK hc i pins s σ H E I hf st hg
    subst hP hw hK
    obtain ⟨f0, f1, f2, f3, f4, f5⟩ := hf it (by simp)
    exact wpAny_pyNext_range_end (I.ok.hd hc) st (by have : n ≤ i := hg; omega) fun h' eb => ⟨rfl, I.turned (t' := s.toks) (fun b o hb e => eb b o hb e) f0 f1 f3 f4 f5⟩
  self := fun _ _ _ _ _ st h => wpAny_pyIter_rangeiter st h
end L2

namespace L2
open PySem PySem.Spec PyProof.Rows
section
variable {X : Cx} {tg : Expr}
def iList (K : PySem.W.Frag) (tl : TE) : TI := fun σ H R => tl σ H fun x H1 => ∃ a, x = .ref a ∧ (∃ xs, SqL K H1 a xs) ∧ R (Itl K a) H1
theorem pi_list {l : Expr} {tl : TE} (hl : PE X l tl) : PI X tg l (iList X.K tl) := by
  intro pins s σ H R I h
  refine thn (hl pins s σ H _ I h) fun v s1 ⟨x, H1, I1, r1, q1⟩ => ?_
  obtain ⟨a, e, ⟨xs, hq⟩, q⟩ := q1
  subst e
  cases r1
  obtain ⟨its, rv, p, hz⟩ := I1.list hq
  refine wpAny_pyIter_list p.isList ?_
  refine ⟨s1.heap.objs.size, [s1.heap.objs.size], _, _, H1, rfl, I1.kept (t' := s1.toks) fun b o e => Heap.get?_push_of_some _ e, turn_list a _, ⟨_, Heap.get?_push_size _ rfl, rfl, rfl⟩, fun b hb => ?_, q⟩
  have e : b = s1.heap.objs.size := by simpa using hb
  subst e
  exact I1.fpOk (Nat.le_refl _) (I1.hok.fresh (Nat.le_refl _))
/-- a range object just made, walked -/
theorem range_it {pins : List (Addr × Obj)} {σ : St} {H : Hp} {s : Shared} {R : It → Hp → Prop} {E : Value → Shared → Prop} {lo hi : Int} {t u v : Tok} {tk : Nat} (I : Inv X pins σ H s) (h1 : -(2 ^ 62) ≤ lo) (h2 : lo < 2 ^ 62) (h3 : -(2 ^ 62) ≤ hi) (h4 : hi < 2 ^ 62)
    (q : R (Itr lo (hi - lo).toNat) H) : wpAny (model X.prog X.w) X.A (pyIter (.ref s.heap.objs.size)) (PIE X pins σ tg R) E { s with heap := s.heap.push { cls := .type "range", data := .fields #[.int lo t, .int hi u, .int 1 v] }, toks := tk } := by
  refine wpAny_pyIter_range (IsRange.new ..) (small_one h1 h2 h3 h4) ?_
  have I1 : Inv X pins σ H { s with heap := s.heap.push { cls := .type "range", data := .fields #[.int lo t, .int hi u, .int 1 v] }, toks := tk } := I.kept fun b o e => Heap.get?_push_of_some _ e
  refine ⟨(s.heap.push { cls := .type "range", data := .fields #[.int lo t, .int hi u, .int 1 v] }).objs.size, [(s.heap.push { cls := .type "range", data := .fields #[.int lo t, .int hi u, .int 1 v] }).objs.size], _, _, H, rfl,
    I1.kept (t' := tk) fun b o e => Heap.get?_push_of_some _ e, turn_range _ lo (hi - lo).toNat, ?_, fun b hb => ?_, q⟩
  · have e1 : lo + ((0 : Nat) : Int) * 1 = lo := by simp
    have e2 : (((hi - lo).toNat : Nat) : Int) - ((0 : Nat) : Int) = Builtin.Range.rangeSize lo hi 1 := by rw [rangeSize_one]; split <;> omega
    show IsRangeIter _ _ (lo + ((0 : Nat) : Int) * 1) ((((hi - lo).toNat : Nat) : Int) - ((0 : Nat) : Int)) 1
    rw [e1, e2]
    exact Heap.get?_push_size _ rfl
  · have e : b = (s.heap.push { cls := .type "range", data := .fields #[.int lo t, .int hi u, .int 1 v] }).objs.size := by simpa using hb
    subst e
    exact I1.fpOk (Nat.le_refl _) (I1.hok.fresh (Nat.le_refl _))
def iRng1 (ta : TA) : TI := fun σ H R => ta σ H fun vs H1 => ∃ j : Int, vs = [.int j] ∧ -(2 ^ 62) ≤ j ∧ j < 2 ^ 62 ∧ R (Itr 0 j.toNat) H1
def iRng2 (ta : TA) : TI := fun σ H R => ta σ H fun vs H1 => ∃ i j : Int, vs = [.int i, .int j] ∧ (-(2 ^ 62) ≤ i ∧ i < 2 ^ 62 ∧ -(2 ^ 62) ≤ j ∧ j < 2 ^ 62) ∧ R (Itr i (j - i).toNat) H1
theorem pi_range1 {a : Expr} {ta : TA} {p pos : Pos} (hg : Gl X "range") (hm : X.mg "range" = none) (ha : PA X [a] ta) (hs : starEach [a] X.env = [(false, eval a X.env)] := by rfl) : PI X tg (.Call (.Name "range" p) [a] [] pos) (iRng1 ta) := by
  intro pins s σ H R I h
  refine Call_ (ld_blt I hg hm boot_range (PyProof.Rows.callWith_type1 (thn (ha pos pins s σ H _ I h) fun us s1 ⟨vs, H1, I1, r1, q1⟩ => ?_) hs rfl))
  obtain ⟨j, e, q1, q2, q⟩ := q1
  subst e
  cases r1 with
  | cons r rr =>
    cases rr
    obtain ⟨t, rfl⟩ := r
    exact call_range_1 (range_it I1 (by omega) (by omega) q1 q2 (by simpa using q))
theorem pi_range2 {a b : Expr} {ta : TA} {p pos : Pos} (hg : Gl X "range") (hm : X.mg "range" = none) (ha : PA X [a, b] ta) (hs : starEach [a, b] X.env = [(false, eval a X.env), (false, eval b X.env)] := by rfl) (hs2 : starEach [b] X.env = [(false, eval b X.env)] := by rfl) :
    PI X tg (.Call (.Name "range" p) [a, b] [] pos) (iRng2 ta) := by
  intro pins s σ H R I h
  refine Call_ (ld_blt I hg hm boot_range (PyProof.Rows.callWith_type1 (thn (ha pos pins s σ H _ I h) fun us s1 ⟨vs, H1, I1, r1, q1⟩ => ?_) (by rw [hs, hs2]) (by rw [hs2]; rfl)))
  obtain ⟨i, j, e, ⟨q1, q2, q3, q4⟩, q⟩ := q1
  subst e
  cases r1 with
  | cons r rr =>
    cases rr with
    | cons r' rr =>
      cases rr
      obtain ⟨t, rfl⟩ := r
      obtain ⟨t', rfl⟩ := r'
      exact call_range_2 (range_it I1 q1 q2 q3 q4 q)

/-! ### for -/
/-- W: the invariant by the turn and a measure; N: what the body is to reach -/
def tFor (wi : TI) (g : TG) (tb : TS) : TS := fun D σ H => wi σ H fun J H1 => ∃ W : Nat → Nat → St → Hp → Prop, (∃ m, W 0 m σ H1) ∧ ∀ i m σ H, W i m σ H →
  (J.stop i H ∧ D.nx σ H) ∨ (J.go i H ∧ ∃ N : St → Hp → Prop, (∀ σ' H', N σ' H' → ∃ m', m' < m ∧ W (i + 1) m' σ' H') ∧ ∀ x H', J.yld i H x H' → g x σ H' fun σ2 H2 => tb { D with nx := N, ct := N, bk := D.nx } σ2 H2)
/-- the records at fp as they stand -/
def pinsAt (fp : List Addr) (h : Heap) : List (Addr × Obj) := fp.filterMap fun b => (h.get? b).map fun o => (b, o)
theorem mem_pinsAt {fp : List Addr} {h : Heap} {b : Addr} {o : Obj} (hb : b ∈ fp) (e : h.get? b = some o) : (b, o) ∈ pinsAt fp h := List.mem_filterMap.mpr ⟨b, hb, by rw [e]; rfl⟩
theorem of_pinsAt {fp : List Addr} {h : Heap} {p : Addr × Obj} (hp : p ∈ pinsAt fp h) : p.1 ∈ fp ∧ h.get? p.1 = some p.2 := by
  obtain ⟨b, hb, e⟩ := List.mem_filterMap.mp hp
  cases q : h.get? b with
  | none => rw [q] at e; cases e
  | some o =>
    rw [q] at e
    have e' : (b, o) = p := Option.some.inj e
    subst e'
    exact ⟨hb, q⟩
theorem Inv.pinned {pins : List (Addr × Obj)} {σ : St} {H : Hp} {s : Shared} {fp : List Addr} (I : Inv X pins σ H s) (hf : ∀ b ∈ fp, FpOk X pins H b) (ho : ∀ b ∈ fp, ∃ o, s.heap.get? b = some o ∧ ∀ v, o.data ≠ .cell v) : Inv X (pins ++ pinsAt fp s.heap) σ H s :=
  I.pins_of fun p hp => (List.mem_append.mp hp).elim (fun z => I.pin p (List.mem_append_right _ z)) fun z => by
    obtain ⟨hb, e⟩ := of_pinsAt z
    obtain ⟨f0, f1, f2, _⟩ := hf p.1 hb
    obtain ⟨o, e', d⟩ := ho p.1 hb
    rw [e] at e'; cases e'
    exact ⟨e, f0, f1, f2, d⟩
theorem Inv.unpinned {pins pl : List (Addr × Obj)} {σ : St} {H : Hp} {s : Shared} (I : Inv X (pins ++ pl) σ H s) : Inv X pins σ H s := I.pins_of fun p hp => I.pin p (List.mem_append_right _ (List.mem_append_left _ hp))
theorem ps_for {iter : Expr} {body : List Stmt} {wi : TI} {g : TG} {tb : TS} {pos : Pos} (hp : PassesOwn (model X.prog X.w) X.A X.env X.xe) (hc : X.calm = true) (hi : PI X tg iter wi) (hg : PG X tg g) (hb : PSs X body tb)
    (hs : ∀ x, foldedSetIterable iter X.env x = pure x := by intro _; rfl) : PS X (.For tg iter body [] pos) (tFor wi g tb) := by
  intro pins s σ H D I h
  refine wpAny_For (thn (hi pins s σ H _ I h) fun v s1 h1 => thn h1 fun itv s2 h2 => ?_) hs
  obtain ⟨it, fp, tn, J, H2, e, I2, T, st2, f2, W, ⟨m0, w0⟩, turn⟩ := h2
  subst e
  -- what stays true of the iterator's objects through the loop
  have stat : ∀ {H' : Hp}, (∀ b ∈ fp, H' b = none) → ∀ b ∈ fp, FpOk X pins H' b := fun hn b hb => ⟨hn b hb, (f2 b hb).2⟩
  refine codeAny_forLoop_any (fun n s' => ∃ i σ' H', Inv X pins σ' H' s' ∧ tn i s'.heap ∧ (∀ b ∈ fp, H' b = none) ∧ W i n σ' H') ?_ m0 ⟨0, σ, H2, I2, st2, fun b hb => (f2 b hb).1, w0⟩
  rintro n s3 ⟨i, σ3, H3, I3, st3, fr3, w3⟩
  rcases turn i n σ3 H3 w3 with ⟨stop, qn⟩ | ⟨go, N, hN, step⟩
  · refine wpAny_passesOwn hp (thn (T.done X rfl rfl rfl hc i pins s3 σ3 H3 X.xe I3 (stat fr3) st3 stop) fun r s4 ⟨hr, I4⟩ => ?_)
    subst hr
    exact wpAny_execs_nil ⟨σ3, H3, I4, qn⟩
  · refine wpAny_passesOwn hp (thn (T.item X rfl rfl rfl hc i pins s3 σ3 H3 X.xe I3 (stat fr3) st3 go) fun r s4 ⟨u, hr, h4⟩ => ?_)
    subst hr
    refine wpAny_passesOwn hp (thn h4 fun _ s5 ⟨x, H5, I5, r5, y5, st5, fr5⟩ => ?_)
    have I5' := I5.pinned (stat fr5) (T.obj _ _ st5)
    refine wpAny_passesOwn hp (thn (hg _ s5 σ3 H5 x u _ I5' r5 (step x H5 y5)) fun _ s6 ⟨σ6, H6, I6, q6⟩ => ?_)
    refine wpAny_passesOwn hp (thn (hb _ s6 σ6 H6 _ I6 q6) fun f s7 q7 => ?_)
    have again : ∀ {σ7 : St} {H7 : Hp}, Inv X (pins ++ pinsAt fp s5.heap) σ7 H7 s7 → N σ7 H7 → ∃ m, m < n ∧ ∃ i σ' H', Inv X pins σ' H' s7 ∧ tn i s7.heap ∧ (∀ b ∈ fp, H' b = none) ∧ W i m σ' H' := fun {σ7 H7} I7 n7 => by
      obtain ⟨m', hm, w7⟩ := hN σ7 H7 n7
      refine ⟨m', hm, i + 1, σ7, H7, I7.unpinned, T.keep _ _ _ st5 fun b hb o e => (I7.pin (b, o) (List.mem_append_right _ (List.mem_append_right _ (mem_pinsAt hb e)))).1, fun b hb => ?_, w7⟩
      obtain ⟨o, e, d⟩ := T.obj _ _ st5 b hb
      exact (I7.pin (b, o) (List.mem_append_right _ (List.mem_append_right _ (mem_pinsAt hb e)))).2.1
    cases f with
    | next => obtain ⟨σ7, H7, I7, n7⟩ := q7; exact again I7 n7
    | cont => obtain ⟨σ7, H7, I7, n7⟩ := q7; exact again I7 n7
    | brk => obtain ⟨σ7, H7, I7, q7⟩ := q7; exact ⟨σ7, H7, I7.unpinned, q7⟩
    | ret v => obtain ⟨x7, σ7, H7, I7, r7, q7⟩ := q7; exact ⟨x7, σ7, H7, I7.unpinned, r7, q7⟩
end

/-! ### the forms one uses -/
/-- over a list that the body leaves as it is -/
theorem for_list {K : PySem.W.Frag} {a : Addr} {xs : List V} {g : TG} {tb : TS} {D : Ends} {σ : St} {H : Hp} (Pv : Nat → St → Hp → Prop) (h0 : Pv 0 σ H) (hl : ∀ i σ H, i ≤ xs.length → Pv i σ H → SqL K H a xs)
    (hs : ∀ i x σ H, xs[i]? = some x → Pv i σ H → g x σ H fun σ2 H2 => tb { D with nx := Pv (i + 1), ct := Pv (i + 1), bk := D.nx } σ2 H2) (hd : ∀ σ H, Pv xs.length σ H → D.nx σ H) :
    ∃ W : Nat → Nat → St → Hp → Prop, (∃ m, W 0 m σ H) ∧ ∀ i m σ H, W i m σ H →
      ((Itl K a).stop i H ∧ D.nx σ H) ∨ ((Itl K a).go i H ∧ ∃ N : St → Hp → Prop, (∀ σ' H', N σ' H' → ∃ m', m' < m ∧ W (i + 1) m' σ' H') ∧ ∀ x H', (Itl K a).yld i H x H' → g x σ H' fun σ2 H2 => tb { D with nx := N, ct := N, bk := D.nx } σ2 H2) := by
  refine ⟨fun i m σ H => m = xs.length - i ∧ i ≤ xs.length ∧ Pv i σ H, ⟨xs.length, by simp, Nat.zero_le _, h0⟩, ?_⟩
  rintro i m σ H ⟨rfl, hi, p⟩
  have q := hl i σ H hi p
  by_cases hlt : i < xs.length
  · refine .inr ⟨⟨xs, xs[i], q, by simp [hlt]⟩, Pv (i + 1), fun σ' H' p' => ⟨xs.length - (i + 1), by omega, rfl, hlt, p'⟩, fun x H' y => ?_⟩
    obtain ⟨e, y⟩ := y
    subst e
    exact hs i x σ _ (y xs q) p
  · have e : i = xs.length := by omega
    subst e
    exact .inl ⟨⟨xs, q, Nat.le_refl _⟩, hd σ H p⟩
theorem for_range {lo : Int} {n : Nat} {g : TG} {tb : TS} {D : Ends} {σ : St} {H : Hp} (Pv : Nat → St → Hp → Prop) (h0 : Pv 0 σ H)
    (hs : ∀ i σ H, i < n → Pv i σ H → g (.int (lo + i)) σ H fun σ2 H2 => tb { D with nx := Pv (i + 1), ct := Pv (i + 1), bk := D.nx } σ2 H2) (hd : ∀ σ H, Pv n σ H → D.nx σ H) :
    ∃ W : Nat → Nat → St → Hp → Prop, (∃ m, W 0 m σ H) ∧ ∀ i m σ H, W i m σ H →
      ((Itr lo n).stop i H ∧ D.nx σ H) ∨ ((Itr lo n).go i H ∧ ∃ N : St → Hp → Prop, (∀ σ' H', N σ' H' → ∃ m', m' < m ∧ W (i + 1) m' σ' H') ∧ ∀ x H', (Itr lo n).yld i H x H' → g x σ H' fun σ2 H2 => tb { D with nx := N, ct := N, bk := D.nx } σ2 H2) := by
  refine ⟨fun i m σ H => m = n - i ∧ i ≤ n ∧ Pv i σ H, ⟨n, by simp, Nat.zero_le _, h0⟩, ?_⟩
  rintro i m σ H ⟨rfl, hi, p⟩
  by_cases hlt : i < n
  · refine .inr ⟨hlt, Pv (i + 1), fun σ' H' p' => ⟨n - (i + 1), by omega, rfl, hlt, p'⟩, fun x H' y => ?_⟩
    obtain ⟨e, y⟩ := y
    subst e y
    exact hs i σ _ hlt p
  · have e : i = n := by omega
    subst e
    exact .inl ⟨Nat.le_refl _, hd σ H p⟩
end L2

namespace L2
open PySem PySem.Spec PyProof.Rows

abbrev R2 := V → V → Hp → VK → Prop
/-- a two-place operation on values: f is binaryOp op, inplaceOp op or compareOp op -/
def OpR (X : Cx) (f : Value → Value → Sem Value) (r : R2) : Prop :=
  ∀ (pins : List (Addr × Obj)) (s : Shared) (σ : St) (H : Hp) (x y : V) (v u : Value) (Q : VK), Inv X pins σ H s → RelV x v → RelV y u → r x y H Q →
    wpAny (model X.prog X.w) X.A (f v u) (EP X pins σ Q) X.xe s
/-- a one-place operation -/
def UnR (X : Cx) (f : Value → Sem Value) (r : V → Hp → VK → Prop) : Prop :=
  ∀ (pins : List (Addr × Obj)) (s : Shared) (σ : St) (H : Hp) (x : V) (v : Value) (Q : VK), Inv X pins σ H s → RelV x v → r x H Q →
    wpAny (model X.prog X.w) X.A (f v) (EP X pins σ Q) X.xe s
/-- a call of a value that is known (a builtin, a type) with values -/
def CallR (X : Cx) (f : Value) (r : List V → Hp → VK → Prop) : Prop :=
  ∀ (pins : List (Addr × Obj)) (s : Shared) (σ : St) (H : Hp) (xs : List V) (us : List Value) (Q : VK), Inv X pins σ H s → Vals xs us → r xs H Q →
    wpAny (model X.prog X.w) X.A (call f us) (EP X pins σ Q) X.xe s
/-- a value's truth -/
def TruR (X : Cx) (r : V → Hp → (Bool → Hp → Prop) → Prop) : Prop :=
  ∀ (pins : List (Addr × Obj)) (s : Shared) (σ : St) (H : Hp) (x : V) (v : Value) (Q : Bool → Hp → Prop), Inv X pins σ H s → RelV x v → r x H Q →
    wpAny (model X.prog X.w) X.A (truthy v) (TP X pins σ Q) X.xe s

def tOp (r : R2) (ta tb : TE) : TE := fun σ H Q => ta σ H fun x H1 => tb σ H1 fun y H2 => r x y H2 Q
def tUn (r : V → Hp → VK → Prop) (ta : TE) : TE := fun σ H Q => ta σ H fun x H1 => r x H1 Q
/-- ints in, under C, and a value out -/
def rI (C : Int → Int → Prop) (g : Int → Int → V) : R2 := fun x y H Q => ∃ i j, x = .int i ∧ y = .int j ∧ C i j ∧ Q (g i j) H
def rI0 (g : Int → Int → V) : R2 := fun x y H Q => ∃ i j, x = .int i ∧ y = .int j ∧ Q (g i j) H
def rU (g : Int → V) : V → Hp → VK → Prop := fun x H Q => ∃ i, x = .int i ∧ Q (g i) H

section
variable {X : Cx} {a b c : Expr} {ta tb tc : TE} {pos : Pos}

theorem binT (ha : PE X a ta) (hb : PE X b tb) {pins : List (Addr × Obj)} {s : Shared} {σ : St} {H : Hp} {R : V → V → Hp → Prop} (I : Inv X pins σ H s)
    (h : ta σ H fun x H1 => tb σ H1 fun y H2 => R x y H2) {Q : Value → Shared → Prop} {f : Value → Value → Sem Value}
    (hf : ∀ v u s2 x y H2, Inv X pins σ H2 s2 → RelV x v → RelV y u → R x y H2 → wpAny (model X.prog X.w) X.A (f v u) Q X.xe s2) :
    wpAny (model X.prog X.w) X.A (eval a X.env) (fun v s₁ => wpAny (model X.prog X.w) X.A (eval b X.env) (fun u s₂ => wpAny (model X.prog X.w) X.A (f v u) Q X.xe s₂) X.xe s₁) X.xe s := by
  refine thn (ha pins s σ H _ I h) fun v s1 ⟨x, H1, I1, r1, q1⟩ => ?_
  refine thn (hb pins s1 σ H1 _ I1 q1) fun u s2 ⟨y, H2, I2, r2, q2⟩ => ?_
  exact hf v u s2 x y H2 I2 r1 r2 q2

theorem pe_op {op : Operator} {r : R2} (ho : OpR X (binaryOp op) r) (ha : PE X a ta) (hb : PE X b tb) : PE X (.BinOp a op b pos) (tOp r ta tb) := by
  intro pins s σ H Q I h
  exact wpAny_BinOp (binT ha hb I h fun v u s2 x y H2 I2 rx ry q => ho pins s2 σ H2 x y v u Q I2 rx ry q)
theorem pe_un {op : UnaryOp} {r : V → Hp → VK → Prop} (ho : UnR X (unaryOp op) r) (ha : PE X a ta) : PE X (.UnaryOp op a pos) (tUn r ta) := by
  intro pins s σ H Q I h
  exact UnaryOp_ (thn (ha pins s σ H _ I h) fun v s1 ⟨x, H1, I1, r1, q1⟩ => ho pins s1 σ H1 x v Q I1 r1 q1)
/-! ### ints -/
theorem opI {f : Value → Value → Sem Value} {C : Int → Int → Prop} {g : Int → Int → Int}
    (rule : ∀ (i j : Int) (t u : Tok) (s : Shared) (Q : Value → Shared → Prop) (E : Value → Shared → Prop), C i j → Q (.int (g i j) s.toks) { s with toks := s.toks + 1 } → wpAny (model X.prog X.w) X.A (f (.int i t) (.int j u)) Q E s) :
    OpR X f (rI C fun i j => .int (g i j)) := by
  intro pins s σ H x y v u Q I rx ry h
  obtain ⟨i, j, rfl, rfl, hc, q⟩ := h
  obtain ⟨t, rfl⟩ := rx
  obtain ⟨t', rfl⟩ := ry
  exact rule i j t t' s _ _ hc ⟨.int (g i j), H, I.tok _, ⟨_, rfl⟩, q⟩
theorem opI0 {f : Value → Value → Sem Value} {g : Int → Int → Int}
    (rule : ∀ (i j : Int) (t u : Tok) (s : Shared) (Q : Value → Shared → Prop) (E : Value → Shared → Prop), Q (.int (g i j) s.toks) { s with toks := s.toks + 1 } → wpAny (model X.prog X.w) X.A (f (.int i t) (.int j u)) Q E s) :
    OpR X f (rI0 fun i j => .int (g i j)) := by
  intro pins s σ H x y v u Q I rx ry h
  obtain ⟨i, j, rfl, rfl, q⟩ := h
  obtain ⟨t, rfl⟩ := rx
  obtain ⟨t', rfl⟩ := ry
  exact rule i j t t' s _ _ ⟨.int (g i j), H, I.tok _, ⟨_, rfl⟩, q⟩
theorem opB0 {f : Value → Value → Sem Value} {g : Int → Int → Bool}
    (rule : ∀ (i j : Int) (t u : Tok) (s : Shared) (Q : Value → Shared → Prop) (E : Value → Shared → Prop), Q (.bool (g i j)) s → wpAny (model X.prog X.w) X.A (f (.int i t) (.int j u)) Q E s) :
    OpR X f (rI0 fun i j => .bl (g i j)) := by
  intro pins s σ H x y v u Q I rx ry h
  obtain ⟨i, j, rfl, rfl, q⟩ := h
  obtain ⟨t, rfl⟩ := rx
  obtain ⟨t', rfl⟩ := ry
  exact rule i j t t' s _ _ ⟨.bl (g i j), H, I, rfl, q⟩

def CDiv (i j : Int) : Prop := 0 < j ∧ j < 1073741824
def CPow (i j : Int) : Prop := 0 ≤ j ∧ j ≤ 1000000 ∧ i.natAbs < 2 ^ 64
def CMul (i j : Int) : Prop := (-(2 ^ 64) < i ∧ i < 2 ^ 64) ∨ (-(2 ^ 64) < j ∧ j < 2 ^ 64)
theorem CMul.ok {i j : Int} (h : CMul i j) : IntMulOk i j := by
  rcases h with ⟨h1, h2⟩ | ⟨h1, h2⟩
  · exact .of_left (intBits_le_64 h1 h2)
  · exact .of_right (intBits_le_64 h1 h2)
theorem op_add : OpR X (binaryOp .Add) (rI0 fun i j => .int (i + j)) := opI0 fun _ _ _ _ _ _ _ q => add_int q
theorem op_sub : OpR X (binaryOp .Sub) (rI0 fun i j => .int (i - j)) := opI0 fun _ _ _ _ _ _ _ q => sub_int q
theorem op_mul : OpR X (binaryOp .Mult) (rI CMul fun i j => .int (i * j)) := opI fun _ _ _ _ _ _ _ hc q => mul_int q hc.ok
/-- // by a positive divisor -/
theorem op_fdiv : OpR X (binaryOp .FloorDiv) (rI CDiv fun i j => .int (i / j)) := opI fun i j _ _ _ _ _ hc q => by
  have h1 : (0 : Int) < j := hc.1
  have h2 : j < 1073741824 := hc.2
  exact floordiv_int (by omega) (by rw [Int.fdiv_eq_ediv_of_nonneg i (by omega)]; exact q) (.inl (PyProof.noPylong_small (by omega)))
/-- % by a positive divisor of any size -/
theorem op_mod : OpR X (binaryOp .Mod) (rI (fun _ j => 0 < j) fun i j => .int (i % j)) := opI fun i j _ _ _ _ _ hc q => by
  have h1 : (0 : Int) < j := hc
  exact mod_int' (by omega) (by rw [Int.fmod_eq_emod_of_nonneg i (by omega)]; exact q)
theorem op_pow : OpR X (binaryOp .Pow) (rI CPow fun i j => .int (i ^ j.toNat)) := opI fun _ _ _ _ _ _ _ hc q => pow_int_small hc.1 hc.2.1 hc.2.2 q
theorem unI {f : Value → Sem Value} {g : Int → Int}
    (rule : ∀ (i : Int) (t : Tok) (s : Shared) (Q : Value → Shared → Prop) (E : Value → Shared → Prop), Q (.int (g i) s.toks) { s with toks := s.toks + 1 } → wpAny (model X.prog X.w) X.A (f (.int i t)) Q E s) :
    UnR X f (rU fun i => .int (g i)) := by
  intro pins s σ H x v Q I rx h
  obtain ⟨i, rfl, q⟩ := h
  obtain ⟨t, rfl⟩ := rx
  exact rule i t s _ _ ⟨.int (g i), H, I.tok _, ⟨_, rfl⟩, q⟩
theorem un_neg : UnR X (unaryOp .USub) (rU fun i => .int (-i)) := unI fun _ _ _ _ _ q => neg_int q
end

/-! ### comparisons -/
/-- the scalars that == tells apart as data does -/
def scal : V → V → Bool
  | .non, .non => true | .non, .int _ => true | .int _, .non => true | .non, .bl _ => true | .bl _, .non => true | .non, .str _ => true | .str _, .non => true
  | .int _, .int _ => true | .bl _, .bl _ => true | .str _, .str _ => true | .byt _, .byt _ => true
  | .int _, .str _ => true | .str _, .int _ => true | .bl _, .str _ => true | .str _, .bl _ => true
  | _, _ => false
def rEq : R2 := fun x y H Q => scal x y = true ∧ Q (.bl (decide (x = y))) H
def rNe : R2 := fun x y H Q => scal x y = true ∧ Q (.bl (!decide (x = y))) H

theorem dec_int {i j : Int} : decide (V.int i = V.int j) = (i == j) := by
  rw [Bool.eq_iff_iff]
  simp
theorem dec_bl {i j : Bool} : decide (V.bl i = V.bl j) = (i == j) := by
  rw [Bool.eq_iff_iff]
  simp
theorem dec_str {i j : Str} : decide (V.str i = V.str j) = (i == j) := by
  rw [Bool.eq_iff_iff]
  simp
theorem dec_byt {i j : Array UInt8} : decide (V.byt i = V.byt j) = (i.toList == j.toList) := by
  rw [Bool.eq_iff_iff]
  cases i
  cases j
  simp

section
variable {X : Cx} {a b c : Expr} {ta tb tc : TE} {pos : Pos}
theorem fin_bl {pins : List (Addr × Obj)} {σ : St} {H : Hp} {s : Shared} {Q : VK} {k k' : Bool} (I : Inv X pins σ H s) (q : Q (.bl k) H) (e : k = k') : EP X pins σ Q (.bool k') s := by
  subst e
  exact ⟨.bl k, H, I, rfl, q⟩
theorem op_eq : OpR X (compareOp .Eq) rEq := by
  intro pins s σ H x y v u Q I rx ry h
  obtain ⟨hs, q⟩ := h
  cases x with
  | non =>
    cases rx
    cases y with
    | non => cases ry; exact PySem.EqNone.eq_none_none (fin_bl I q (by simp))
    | bl j => cases ry; exact PySem.EqNone.eq_none_bool (fin_bl I q (by simp))
    | int j => obtain ⟨t', rfl⟩ := ry; exact PySem.EqNone.eq_none_int (fin_bl I q (by simp))
    | str j => obtain ⟨t', rfl⟩ := ry; exact PySem.EqNone.eq_none_str (fin_bl I q (by simp))
    | _ => exact absurd (show false = true from hs) Bool.false_ne_true
  | bl i =>
    cases rx
    cases y with
    | non => cases ry; exact PySem.EqNone.eq_bool_none (fin_bl I q (by simp))
    | bl j => cases ry; exact eq_bool (fin_bl I q dec_bl)
    | str j => obtain ⟨t', rfl⟩ := ry; exact PySem.EqMixed.eq_bool_str (fin_bl I q (by simp))
    | _ => exact absurd (show false = true from hs) Bool.false_ne_true
  | int i =>
    obtain ⟨t, rfl⟩ := rx
    cases y with
    | non => cases ry; exact PySem.EqNone.eq_int_none (fin_bl I q (by simp))
    | int j => obtain ⟨t', rfl⟩ := ry; exact eq_int (fin_bl I q dec_int)
    | str j => obtain ⟨t', rfl⟩ := ry; exact PySem.EqMixed.eq_int_str (fin_bl I q (by simp))
    | _ => exact absurd (show false = true from hs) Bool.false_ne_true
  | str i =>
    obtain ⟨t, rfl⟩ := rx
    cases y with
    | non => cases ry; exact PySem.EqNone.eq_str_none (fin_bl I q (by simp))
    | bl j => cases ry; exact PySem.EqMixed.eq_str_bool (fin_bl I q (by simp))
    | int j => obtain ⟨t', rfl⟩ := ry; exact PySem.EqMixed.eq_str_int (fin_bl I q (by simp))
    | str j => obtain ⟨t', rfl⟩ := ry; exact eq_str (fin_bl I q dec_str)
    | _ => exact absurd (show false = true from hs) Bool.false_ne_true
  | byt i =>
    obtain ⟨t, rfl⟩ := rx
    cases y with
    | byt j => obtain ⟨t', rfl⟩ := ry; exact PySem.W.eq_bytes (fin_bl I q dec_byt)
    | _ => exact absurd (show false = true from hs) Bool.false_ne_true
  | _ => cases y <;> exact absurd (show false = true from hs) Bool.false_ne_true
theorem op_ne : OpR X (compareOp .NotEq) rNe := by
  intro pins s σ H x y v u Q I rx ry h
  obtain ⟨hs, q⟩ := h
  cases x with
  | non =>
    cases rx
    cases y with
    | non => cases ry; exact PySem.EqNone.ne_none_none (fin_bl I q (by simp))
    | bl j => cases ry; exact PySem.EqNone.ne_none_bool (fin_bl I q (by simp))
    | int j => obtain ⟨t', rfl⟩ := ry; exact PySem.EqNone.ne_none_int (fin_bl I q (by simp))
    | str j => obtain ⟨t', rfl⟩ := ry; exact PySem.EqNone.ne_none_str (fin_bl I q (by simp))
    | _ => exact absurd (show false = true from hs) Bool.false_ne_true
  | bl i =>
    cases rx
    cases y with
    | non => cases ry; exact PySem.EqNone.ne_bool_none (fin_bl I q (by simp))
    | bl j => cases ry; exact ne_bool (fin_bl I q (congrArg not dec_bl))
    | str j => obtain ⟨t', rfl⟩ := ry; exact PySem.EqMixed.ne_bool_str (fin_bl I q (by simp))
    | _ => exact absurd (show false = true from hs) Bool.false_ne_true
  | int i =>
    obtain ⟨t, rfl⟩ := rx
    cases y with
    | non => cases ry; exact PySem.EqNone.ne_int_none (fin_bl I q (by simp))
    | int j => obtain ⟨t', rfl⟩ := ry; exact ne_int (fin_bl I q (congrArg not dec_int))
    | str j => obtain ⟨t', rfl⟩ := ry; exact PySem.EqMixed.ne_int_str (fin_bl I q (by simp))
    | _ => exact absurd (show false = true from hs) Bool.false_ne_true
  | str i =>
    obtain ⟨t, rfl⟩ := rx
    cases y with
    | non => cases ry; exact PySem.EqNone.ne_str_none (fin_bl I q (by simp))
    | bl j => cases ry; exact PySem.EqMixed.ne_str_bool (fin_bl I q (by simp))
    | int j => obtain ⟨t', rfl⟩ := ry; exact PySem.EqMixed.ne_str_int (fin_bl I q (by simp))
    | str j => obtain ⟨t', rfl⟩ := ry; exact ne_str (fin_bl I q (congrArg not dec_str))
    | _ => exact absurd (show false = true from hs) Bool.false_ne_true
  | byt i =>
    obtain ⟨t, rfl⟩ := rx
    cases y with
    | byt j => obtain ⟨t', rfl⟩ := ry; exact PySem.W.ne_bytes (fin_bl I q (congrArg not dec_byt))
    | _ => exact absurd (show false = true from hs) Bool.false_ne_true
  | _ => cases y <;> exact absurd (show false = true from hs) Bool.false_ne_true

theorem op_lt : OpR X (compareOp .Lt) (rI0 fun i j => .bl (decide (i < j))) := opB0 fun _ _ _ _ _ _ _ q => lt_int q
theorem op_le : OpR X (compareOp .LtE) (rI0 fun i j => .bl (decide (i ≤ j))) := opB0 fun _ _ _ _ _ _ _ q => le_int q
theorem op_gt : OpR X (compareOp .Gt) (rI0 fun i j => .bl (decide (j < i))) := opB0 fun _ _ _ _ _ _ _ q => gt_int q
theorem op_ge : OpR X (compareOp .GtE) (rI0 fun i j => .bl (decide (j ≤ i))) := opB0 fun _ _ _ _ _ _ _ q => ge_int q
/-- is None, is not None: the right side a value none -/
theorem op_isN : OpR X (compareOp .Is) (fun x y H Q => y = .non ∧ Q (.bl (decide (x = .non))) H) := by
  intro pins s σ H x y v u Q I rx ry h
  obtain ⟨rfl, q⟩ := h
  cases ry
  refine is_none_gen (fin_bl I q ?_)
  cases x <;> first
    | (cases rx; rfl)
    | (obtain ⟨t, rfl⟩ := rx; rfl)
theorem nomark (b : Expr) {op : CmpOp} (h : op ≠ .In := by decide) (h2 : op ≠ .NotIn := by decide) : behindInMarks op b = false := by
  have e1 : (op == CmpOp.In) = false := by cases op <;> first | rfl | exact absurd rfl h
  have e2 : (op == CmpOp.NotIn) = false := by cases op <;> first | rfl | exact absurd rfl h2
  cases b <;> simp [behindInMarks, e1, e2]
/-- a comparison as a value; hm: nomark b, or (for in, not in) by with_unfolding_all rfl -/
theorem pe_cmpR {op : CmpOp} {r : R2} (ho : OpR X (compareOp op) r) (ha : PE X a ta) (hb : PE X b tb) (hm : behindInMarks op b = false) : PE X (.Compare a [op] [b] pos) (tOp r ta tb) := by
  intro pins s σ H Q I h
  exact wpAny_Compare1 (binT ha hb I h fun v u s2 x y H2 I2 rx ry q => ho pins s2 σ H2 x y v u Q I2 rx ry q) hm
/-- a reading of a value as a test -/
def tTest (t : TE) : TT := fun σ H Q => t σ H fun x H' => ∃ k, x = .bl k ∧ Q k H'
theorem pt_cmpR {op : CmpOp} {r : R2} (ho : OpR X (compareOp op) r) (ha : PE X a ta) (hb : PE X b tb) (hm : behindInMarks op b = false) : PT X (.Compare a [op] [b] pos) (tTest (tOp r ta tb)) := by
  intro pins s σ H Q I h
  refine wpAny_isTrue_Compare1 (thn (ha pins s σ H _ I h) fun v s1 ⟨x, H1, I1, r1, q1⟩ => thn (hb pins s1 σ H1 _ I1 q1) fun u s2 ⟨y, H2, I2, r2, q2⟩ =>
    thn (ho pins s2 σ H2 x y v u _ I2 r1 r2 q2) fun c s3 ⟨z, H3, I3, r3, k, e, q3⟩ => ?_) hm
  subst e
  cases r3
  exact wpAny_truthy_bool ⟨H3, I3, q3⟩
/-- a op1 b op2 c -/
def tChain (r r' : R2) (ta tb tc : TE) : TE := fun σ H Q => ta σ H fun x H1 => tb σ H1 fun y H2 => r x y H2 fun z H3 => ∃ k, z = .bl k ∧
  (if k = true then tc σ H3 fun w' H4 => r' y w' H4 Q else Q (.bl false) H3)
theorem pe_chain {op op' : CmpOp} {r r' : R2} (ho : OpR X (compareOp op) r) (ho' : OpR X (compareOp op') r') (ha : PE X a ta) (hb : PE X b tb) (hc : PE X c tc)
    (hm : lastMarks [op, op'] [b, c] = false := by with_unfolding_all rfl) : PE X (.Compare a [op, op'] [b, c] pos) (tChain r r' ta tb tc) := by
  intro pins s σ H Q I h
  refine Compare_chain (thn (ha pins s σ H _ I h) fun v s1 ⟨x, H1, I1, r1, q1⟩ => chain_link (thn (hb pins s1 σ H1 _ I1 q1) fun u s2 ⟨y, H2, I2, r2, q2⟩ =>
    thn (ho pins s2 σ H2 x y v u _ I2 r1 r2 q2) fun d s3 ⟨z, H3, I3, r3, k, e, q3⟩ => ?_)) hm
  subst e
  cases r3
  refine wpAny_truthy_bool ?_
  cases k with
  | false => exact ite_ff ⟨.bl false, H3, I3, rfl, q3⟩
  | true => exact ite_tt (chain_last (thn (hc pins s3 σ H3 _ I3 q3) fun w' s4 ⟨z', H4, I4, r4, q4⟩ => ho' pins s4 σ H4 y z' u w' Q I4 r2 r4 q4))
theorem pt_chain {op op' : CmpOp} {r r' : R2} (ho : OpR X (compareOp op) r) (ho' : OpR X (compareOp op') r') (ha : PE X a ta) (hb : PE X b tb) (hc : PE X c tc)
    (hm : lastMarks [op, op'] [b, c] = false := by with_unfolding_all rfl) : PT X (.Compare a [op, op'] [b, c] pos) (tTest (tChain r r' ta tb tc)) := by
  intro pins s σ H Q I h
  refine isTrue_chain (thn (ha pins s σ H _ I h) fun v s1 ⟨x, H1, I1, r1, q1⟩ => test_link (thn (hb pins s1 σ H1 _ I1 q1) fun u s2 ⟨y, H2, I2, r2, q2⟩ =>
    thn (ho pins s2 σ H2 x y v u _ I2 r1 r2 q2) fun d s3 ⟨z, H3, I3, r3, k, e, q3⟩ => ?_)) hm
  subst e
  cases r3
  refine wpAny_truthy_bool ?_
  cases k with
  | false =>
    obtain ⟨k', e', q'⟩ := q3
    cases e'
    exact ite_ff ⟨H3, I3, q'⟩
  | true =>
    refine ite_tt (test_last (thn (hc pins s3 σ H3 _ I3 q3) fun w' s4 ⟨z', H4, I4, r4, q4⟩ => thn (ho' pins s4 σ H4 y z' u w' _ I4 r2 r4 q4) fun d' s5 ⟨z2, H5, I5, r5, k2, e2, q5⟩ => ?_))
    subst e2
    cases r5
    exact wpAny_truthy_bool ⟨H5, I5, q5⟩

/-! ### truth -/
/-- a value's truth by the abstract heap -/
def TruV (K : PySem.W.Frag) (x : V) (H : Hp) (k : Bool) : Prop :=
  match x with
  | .non => k = false
  | .bl b => k = b
  | .int i => k = (i != 0)
  | .str y => y.length ≤ sizeLine ∧ k = ((y.length : Int) != 0)
  | .byt y => y.size ≤ sizeLine ∧ k = ((y.size : Int) != 0)
  | .ref p => (∃ xs, SqL K H p xs ∧ k = !xs.isEmpty) ∨ (∃ xs, SqT K H p xs ∧ k = !xs.isEmpty) ∨ ∃ kvs, H p = some (.dK kvs) ∧ k = !kvs.isEmpty
  | _ => False
theorem isEmpty_kv {κ : Type} {kvs : List (κ × V)} {vs : List (κ × Value)} (r : KV kvs vs) : (!vs.isEmpty) = !kvs.isEmpty := by
  cases r <;> rfl
theorem isEmpty_of {xs : List V} {its : List Value} (r : Vals xs its) : (!its.toArray.isEmpty) = !xs.isEmpty := by
  cases r <;> simp
theorem line63 : (sizeLine : Nat) < 2 ^ 63 := by rw [sizeLine_eq]; decide
theorem tru_ok : TruR X (fun x H Q => ∃ k, TruV X.K x H k ∧ Q k H) := by
  intro pins s σ H x v Q I rx h
  obtain ⟨k, e, q⟩ := h
  have hl := line63
  have hs : sizeLine = 16777216 := sizeLine_eq
  cases x with
  | non =>
    cases rx
    have e' : k = false := e
    subst e'
    exact truthy_none ⟨H, I, q⟩
  | bl b =>
    cases rx
    have e' : k = b := e
    subst e'
    exact wpAny_truthy_bool ⟨H, I, q⟩
  | int i =>
    obtain ⟨t, rfl⟩ := rx
    have e' : k = (i != 0) := e
    subst e'
    exact PySem.P.truthy_int ⟨H, I, q⟩
  | str y =>
    obtain ⟨t, rfl⟩ := rx
    obtain ⟨hy, e'⟩ : y.length ≤ sizeLine ∧ k = ((y.length : Int) != 0) := e
    subst e'
    exact PySem.P.truthy_str (by omega) ⟨H, I.tok _, q⟩
  | byt y =>
    obtain ⟨t, rfl⟩ := rx
    obtain ⟨hy, e'⟩ : y.size ≤ sizeLine ∧ k = ((y.size : Int) != 0) := e
    subst e'
    exact PySem.W.truthy_bytes (by omega) ⟨H, I.tok _, q⟩
  | ref p =>
    cases rx
    have e' : (∃ xs, SqL X.K H p xs ∧ k = !xs.isEmpty) ∨ (∃ xs, SqT X.K H p xs ∧ k = !xs.isEmpty) ∨ ∃ kvs, H p = some (.dK kvs) ∧ k = !kvs.isEmpty := e
    rcases e' with ⟨xs, hx, e'⟩ | ⟨xs, hx, e'⟩ | ⟨kvs, hx, e'⟩
    · subst e'
      obtain ⟨its, r, pl, hz⟩ := I.list hx
      have hlen := r.length
      exact wpAny_truthy_list pl.isList (by simp only [List.size_toArray]; omega) ⟨H, I.tok _, by rw [isEmpty_of r]; exact q⟩
    · subst e'
      obtain ⟨its, r, pl, hz⟩ := I.tuple hx
      have hlen := r.length
      exact truthy_tuple pl (by simp only [List.size_toArray]; omega) ⟨H, I.tok _, by rw [isEmpty_of r]; exact q⟩
    · subst e'
      obtain ⟨hz, hS, vs, r, m⟩ : kvs.length ≤ sizeLine ∧ (p == sysModules) = false ∧ ∃ vs, KV kvs vs ∧ s.heap.DictOf (mixKind X.prog X.w) p vs := I.hok p _ hx
      have hlen : kvs.length = vs.length := Paired.length r
      exact wpAny_truthy_dict hS m (by omega) ⟨H, I.tok _, by rw [isEmpty_kv r]; exact q⟩
  | _ => exact (show False from e).elim
/-- any expression whose test is its value's truth (a name, a call, a subscript, a field ..: he by fun _ => rfl) -/
theorem pt_truth (ha : PE X a ta) (he : ∀ whole, isTrue a X.env whole = (do let v ← whole; standAt a.pos; holding [v] (truthy v))) :
    PT X a (fun σ H Q => ta σ H fun x H' => ∃ k, TruV X.K x H' k ∧ Q k H') := by
  intro pins s σ H Q I h
  exact isTrue_plain (thn (ha pins s σ H _ I h) fun v s1 ⟨x, H1, I1, r1, q1⟩ => tru_ok pins s1 σ H1 x v Q I1 r1 q1) (he _)

/-! ### scalar builtins, by CallR -/
theorem vals1 {x : V} {us : List Value} (r : Vals [x] us) : ∃ u, us = [u] ∧ RelV x u := by
  cases r with
  | cons r1 r2 => cases r2; exact ⟨_, rfl, r1⟩
theorem vals2 {x y : V} {us : List Value} (r : Vals [x, y] us) : ∃ u w', us = [u, w'] ∧ RelV x u ∧ RelV y w' := by
  cases r with
  | cons r1 r2 =>
    cases r2 with
    | cons r3 r4 => cases r4; exact ⟨_, _, rfl, r1, r3⟩
theorem call_abs : CallR X (.builtin "abs") (fun xs H Q => ∃ i, xs = [.int i] ∧ Q (.int (if i < 0 then -i else i)) H) := by
  intro pins s σ H xs us Q I r h
  obtain ⟨i, rfl, q⟩ := h
  obtain ⟨u, rfl, t, rfl⟩ := vals1 r
  exact call_abs_int fun u tk => ⟨.int (if i < 0 then -i else i), H, I.tok _, ⟨_, rfl⟩, q⟩
theorem call_min2 (hc : X.calm = true) : CallR X (.builtin "min") (fun xs H Q => ∃ i j, xs = [.int i, .int j] ∧ Q (.int (if j < i then j else i)) H) := by
  intro pins s σ H xs us Q I r h
  obtain ⟨i, j, rfl, q⟩ := h
  obtain ⟨u, w', rfl, ⟨t, rfl⟩, ⟨t', rfl⟩⟩ := vals2 r
  refine min_two_ints (I.ok.hd hc) fun h' tk k => ⟨_, H, I.kept k, ?_, q⟩
  by_cases hj : j < i
  · rw [if_pos hj, if_pos hj]; exact ⟨_, rfl⟩
  · rw [if_neg hj, if_neg hj]; exact ⟨_, rfl⟩
theorem call_ord : CallR X (.builtin "ord") (fun xs H Q => ∃ x, xs = [.str x] ∧ x.length = 1 ∧ Q (.int (x.cps.getD 0 0 : Nat)) H) := by
  intro pins s σ H xs us Q I r h
  obtain ⟨x, rfl, hz, q⟩ := h
  obtain ⟨u, rfl, t, rfl⟩ := vals1 r
  exact ord_of_one hz ⟨.int _, H, I.tok _, ⟨_, rfl⟩, q⟩
end
end L2

namespace L2
open PySem PySem.Spec PyProof.Rows

/-! ### an instance, its attributes a map -/
structure ObjM (h : Heap) (x dx C : Addr) (mA : Str → Option Value) : Prop where
  obj : h.get? x = some (PySem.W.instObj C dx)
  ns : h.Ns1 dx mA
  ne : dx ≠ x

theorem lookIn_ns {h : Heap} {dx : Addr} {mA : Str → Option Value} (n : h.Ns1 dx mA) : ∃ od, h.get? dx = some od ∧ ∀ name, PySem.W.lookIn name od = some (mA name) := by
  obtain ⟨o, es, ep, ho, hd, hk, _, hm⟩ := n
  refine ⟨o, ho, fun name => ?_⟩
  have e := hm name
  unfold nsFind findBy at e
  rw [← Array.find?_toList] at e
  unfold PySem.W.lookIn
  rw [hd]
  dsimp only
  split
  · rename_i y q
    rw [q] at e
    exact congrArg some e
  · rename_i q
    rw [q] at e
    have a : es.toList.any (·.refKey) = false := by
      rw [List.any_eq_false]
      intro y hy
      obtain ⟨z, t, hkey⟩ := hk y (Array.mem_toList_iff.mp hy)
      simp [DictEntry.refKey, hkey]
    have a' : ¬ es.toList.any (·.refKey) = true := by rw [a]; exact Bool.false_ne_true
    rw [if_neg a']
    exact congrArg some e

theorem ObjM.look {h : Heap} {x dx C : Addr} {mA : Str → Option Value} (I : ObjM h x dx C mA) : ∃ od, PySem.W.InstAt h x (PySem.W.instObj C dx) C (some od) ∧ ∀ name, PySem.W.lookIn name od = some (mA name) :=
  let ⟨od, ho, hl⟩ := lookIn_ns I.ns
  ⟨od, ⟨I.obj, rfl, rfl, ho⟩, hl⟩

section
variable {prog : Program} {w : World} {A : Around} {E : Value → Shared → Prop} {s : Shared} {K : PySem.W.Frag} {x dx C f : Addr} {mA : Str → Option Value} {name : Str} {v : Value}

theorem get_map {expr : Bool} {Q : Value → Shared → Prop} (X : K.In s.heap) (I : ObjM s.heap x dx C mA) (hg : PySem.W.plainGet K C name = true) (hh : PySem.W.hasDictIn K C = true)
    (ha : PySem.W.findIn K (.ref C) name = some none) (hv : mA name = some v) (hv' : PySem.W.handedIn v = true) (h : Q v { s with toks := s.toks + 1 }) :
    wpAny (model prog w) A (getAttr (.ref x) name expr) Q E s := by
  obtain ⟨od, J, hl⟩ := I.look
  exact PySem.W.get_value X J (PySem.W.plainGet_of hg).1 (PySem.W.findObj_own hh ha rfl (by rw [hl, hv])) hv' h

theorem get_meth {pl : Sem Bool} {Q : Value × List Value → Shared → Prop} (X : K.In s.heap) (I : ObjM s.heap x dx C mA) (hg : PySem.W.plainGet K C name = true)
    (hf : PySem.W.findIn K (.ref C) name = some (some (.ref f))) (ht : PySem.W.isFn K (.ref f) = true) (hv : mA name = none) (h : Q (.ref f, [.ref x]) s) :
    wpAny (model prog w) A (getMethod (.ref x) name pl) Q E s := by
  obtain ⟨od, J, hl⟩ := I.look
  exact PySem.W.method_fn X J (PySem.W.plainGet_of hg).1 (PySem.W.plainGet_of hg).2 hf (beq_iff_eq.mp ht) (by show (PySem.W.lookIn name od).map (·.isSome) = some false; rw [hl, hv]; rfl) h

theorem set_map {ns : List Str} {Q : Unit → Shared → Prop} (X : K.In s.heap) (I : ObjM s.heap x dx C mA)
    (hs : PySem.W.findIn K (.ref C) "__setattr__" = some (some (.builtin "object.__setattr__"))) (hp : PySem.W.plainOver K C = true) (ht : PySem.W.takerIn K C name = some none) (hh : PySem.W.hasDictIn K C = true)
    (hw : PySem.Within mA ns) (hsz : ns.length ≤ sizeLine)
    (h : ∀ h', ObjM h' x dx C (fun y => if y = name then some v else mA y) → Heap.SameBut dx s.heap h' → Q () { s with heap := h', toks := s.toks + 2 }) :
    wpAny (model prog w) A (setAttr (.ref x) name v) Q E s := by
  obtain ⟨od, J, hl⟩ := I.look
  refine PySem.W.set_plain X J hs (PySem.W.osa_open (s := { s with toks := s.toks + 1 }) (r := none) X J hp ht fun b => ?_)
  obtain ⟨cd, hc, hd'⟩ := PySem.W.any_some hh
  have hx : s.heap.get? x = some ⟨.ref C, some dx, .plain, #[]⟩ := I.obj
  refine wpAny_bind (wpAny_pure (wpAny_bind (wpAny_bind (wpAny_loadPart hx (wpAny_bind (PySem.W.Looks.here (s := { s with toks := s.toks + 1 }) (PySem.W.looks_clsIn X hc) ?_))))))
  rw [hd']
  refine wpAny_pure (a := some dx) (wpAny_bind (wpAny_pure (wpAny_bind ?_)))
  refine wpAny_nsSet1 (s := { s with toks := s.toks + 1 }) I.ns fun h' hn2 hs2 => ?_
  obtain ⟨oD, esD, epD, hoD, hdD, hcD⟩ := hn2.count (PySem.Within.cons name v hw)
  refine wpAny_bind (wpAny_lookBehind hoD (by rw [hdD]; exact pastItsLine_dict (Nat.le_trans hcD (by rw [List.length_cons]; omega))) ?_)
  exact wpAny_pure (h _ ⟨(hs2.2 _ (Ne.symm I.ne)).trans I.obj, hn2, I.ne⟩ hs2)

/-- C(..): the dict at the heap's end, the instance behind it; then its __init__ -/
theorem make_map {R : Result → Shared → Prop} {vs : List Value} {kw : List (Str × Value)} (X : K.In s.heap) (hm : PySem.W.makesIn K C = true)
    (hi : PySem.W.findIn K (.ref C) "__init__" = some (some (.ref f))) (hf : PySem.W.typeIn K (.ref f) = some (.type "function"))
    (h : codeAny (model prog w) (A.under (.builtin "type.__call__" ⟨.ref C :: vs, kw⟩)) (.call (.ref f) ⟨.ref (s.heap.objs.size + 1) :: vs, kw⟩) (PySem.W.InitBack (s.heap.objs.size + 1) R)
      { s with heap := (s.heap.push PySem.W.emptyDict).push (PySem.W.instObj C s.heap.objs.size) }) :
    codeAny (model prog w) A (.call (.ref C) ⟨vs, kw⟩) R s := by
  obtain ⟨hh, g, d, t, os⟩ := s
  exact PySem.W.make_core (PySem.W.makes_of X hm) (PySem.W.looks_findIn X hi) (fun self => PySem.W.bind_fn X self hf) (.inl rfl) h
end

/-! ### the attributes as a list of pairs -/
def putF (f : Str) (v : V) : List (Str × V) → List (Str × V)
  | [] => [(f, v)]
  | (g, x) :: r => if g = f then (g, v) :: r else (g, x) :: putF f v r
theorem lookup_putF (f g : Str) (v : V) : ∀ fs : List (Str × V), (putF f v fs).lookup g = if g = f then some v else fs.lookup g
  | [] => by
    show List.lookup g [(f, v)] = _
    by_cases h : g = f
    · have hb : (g == f) = true := beq_iff_eq.mpr h
      simp only [List.lookup, hb, if_pos h]
    · have hb : (g == f) = false := beq_eq_false_iff_ne.mpr h
      simp only [List.lookup, hb, if_neg h]
  | (k, x) :: r => by
    have ih := lookup_putF f g v r
    rw [show putF f v ((k, x) :: r) = (if k = f then (k, v) :: r else (k, x) :: putF f v r) from rfl]
    by_cases hk : k = f
    · rw [if_pos hk]
      by_cases h : g = k
      · have hb : (g == k) = true := beq_iff_eq.mpr h
        simp only [List.lookup, hb, if_pos (h.trans hk)]
      · have hb : (g == k) = false := beq_eq_false_iff_ne.mpr h
        simp only [List.lookup, hb, if_neg (fun e : g = f => h (e.trans hk.symm))]
    · rw [if_neg hk]
      by_cases h : g = k
      · have hb : (g == k) = true := beq_iff_eq.mpr h
        simp only [List.lookup, hb, if_neg (fun e : g = f => hk (h.symm.trans e))]
      · have hb : (g == k) = false := beq_eq_false_iff_ne.mpr h
        simp only [List.lookup, hb]
        exact ih
theorem keys_putF (f : Str) (v : V) : ∀ fs : List (Str × V), f ∈ (putF f v fs).map (·.1) ∧ ∀ g, g ∈ fs.map (·.1) → g ∈ (putF f v fs).map (·.1)
  | [] => ⟨by simp [putF], fun g h => by simp at h⟩
  | (k, x) :: r => by
    obtain ⟨i1, i2⟩ := keys_putF f v r
    rw [show putF f v ((k, x) :: r) = (if k = f then (k, v) :: r else (k, x) :: putF f v r) from rfl]
    by_cases hk : k = f
    · rw [if_pos hk]
      subst hk
      exact ⟨by simp, fun g h => by simpa using h⟩
    · rw [if_neg hk]
      refine ⟨?_, fun g h => ?_⟩
      · rw [List.map_cons]
        exact List.mem_cons_of_mem _ i1
      · rw [List.map_cons] at h ⊢
        rcases List.mem_cons.mp h with e | e
        · exact List.mem_cons.mpr (.inl e)
        · exact List.mem_cons_of_mem _ (i2 g e)
theorem length_putF (f : Str) (v : V) : ∀ fs : List (Str × V), (putF f v fs).length ≤ fs.length + 1
  | [] => by simp [putF]
  | (k, x) :: r => by
    have ih := length_putF f v r
    rw [show putF f v ((k, x) :: r) = (if k = f then (k, v) :: r else (k, x) :: putF f v r) from rfl]
    by_cases hk : k = f
    · rw [if_pos hk, List.length_cons, List.length_cons]; omega
    · rw [if_neg hk, List.length_cons, List.length_cons]; omega

theorem RelO.some_of {v : V} {o : Option Value} (r : RelO (some v) o) : ∃ u, o = some u ∧ RelV v u := by
  cases o with
  | none => exact (show False from r).elim
  | some u => exact ⟨u, rfl, r⟩
theorem RelO.none_of {o : Option Value} (r : RelO none o) : o = none := by
  cases o with
  | none => rfl
  | some u => exact (show False from r).elim
theorem handed_of {v : V} {u : Value} (r : RelV v u) : PySem.W.handedIn u = true := by
  cases v with
  | non => cases (show u = Value.none from r); rfl
  | bl b => cases (show u = Value.bool b from r); rfl
  | int i => obtain ⟨t, e⟩ := (show ∃ t, u = Value.int i t from r); cases e; rfl
  | str x => obtain ⟨t, e⟩ := (show ∃ t, u = Value.str x t from r); cases e; rfl
  | byt b => obtain ⟨t, e⟩ := (show ∃ t, u = Value.bytes b t from r); cases e; rfl
  | flt b => obtain ⟨t, e⟩ := (show ∃ t, u = Value.float b t from r); cases e; rfl
  | ref a => cases (show u = Value.ref a from r); rfl
  | ty n => cases (show u = Value.type n from r); rfl

section
variable {P : Program} {w : World} {H H' : Hp} {h h' : Heap} {a C dx : Addr} {fs fs' : List (Str × V)}
theorem ins_get (hok : HOk P w H h) (e : H a = some (.ins C dx fs)) : ∃ mA, ObjM h a dx C mA ∧ (∀ f, RelO (fs.lookup f) (mA f)) ∧ PySem.Within mA (fs.map (·.1)) ∧ fs.length ≤ 1000 ∧ H dx = some (.own a) := by
  obtain ⟨d, z, ne, ob, mA, n, r, q⟩ := (show ObjOk P w H h a (.ins C dx fs) from hok a _ e)
  exact ⟨mA, ⟨ob, n, ne⟩, r, q, z, d⟩
end

/-! ### what of the text a class must have -/
structure Cls (K : PySem.W.Frag) (C : Addr) : Prop where
  pg : PySem.W.plainGet K C Str.empty = true
  hd : PySem.W.hasDictIn K C = true
  po : PySem.W.plainOver K C = true
  sa : PySem.W.findIn K (.ref C) "__setattr__" = some (some (.builtin "object.__setattr__"))
theorem Cls.get {K : PySem.W.Frag} {C : Addr} (c : Cls K C) (f : Str) : PySem.W.plainGet K C f = true := c.pg
/-- no class of it has the name -/
def NoAttr (K : PySem.W.Frag) (C : Addr) (f : Str) : Prop := PySem.W.findIn K (.ref C) f = some none
theorem NoAttr.taker {K : PySem.W.Frag} {C : Addr} {f : Str} (n : NoAttr K C f) : PySem.W.takerIn K C f = some none := by
  unfold PySem.W.takerIn
  rw [show PySem.W.findIn K (.ref C) f = some none from n]
  rfl
/-- a method: a plain def of the class or of one above it -/
structure Meth (K : PySem.W.Frag) (C : Addr) (m : Str) (f : Addr) : Prop where
  at_ : PySem.W.findIn K (.ref C) m = some (some (.ref f))
  fn : PySem.W.isFn K (.ref f) = true
  kp : PySem.W.keepIn K (.ref f) = true

section
variable {X : Cx} {pins : List (Addr × Obj)} {σ : St} {H : Hp} {s : Shared} {a C dx : Addr} {fs : List (Str × V)} {f : Str} {v : V} {A : Around} {E : Value → Shared → Prop}

theorem getattr_ok {b : Bool} {Q : Value → Shared → Prop} (I : Inv X pins σ H s) (e : H a = some (.ins C dx fs)) (c : Cls X.K C) (n : NoAttr X.K C f) (l : fs.lookup f = some v)
    (h : ∀ u s', Inv X pins σ H s' → RelV v u → Q u s') : wpAny (model X.prog X.w) A (getAttr (.ref a) f b) Q E s := by
  obtain ⟨mA, O, r, _, _, _⟩ := ins_get I.hok e
  obtain ⟨u, hu, ru⟩ := RelO.some_of (v := v) (o := mA f) (by rw [← l]; exact r f)
  exact get_map I.kIn O (c.get f) c.hd n hu (handed_of ru) (h u _ (I.tok _) ru)

theorem getmeth_ok {m : Str} {g : Addr} {pl : Sem Bool} {Q : Value × List Value → Shared → Prop} (I : Inv X pins σ H s) (e : H a = some (.ins C dx fs)) (c : Cls X.K C) (k : Meth X.K C m g) (l : fs.lookup m = none)
    (h : Q (.ref g, [.ref a]) s) : wpAny (model X.prog X.w) A (getMethod (.ref a) m pl) Q E s := by
  obtain ⟨mA, O, r, _, _, _⟩ := ins_get I.hok e
  have hn : mA m = none := RelO.none_of (by rw [← l]; exact r m)
  exact get_meth I.kIn O (c.get m) k.at_ k.fn hn h

theorem setattr_ok {y : V} {u : Value} {Q : Unit → Shared → Prop} (I : Inv X pins σ H s) (e : H a = some (.ins C dx fs)) (c : Cls X.K C) (n : NoAttr X.K C f) (hl : fs.length < 1000) (ry : RelV y u)
    (h : ∀ s', Inv X pins σ (upd H a (.ins C dx (putF f y fs))) s' → Q () s') : wpAny (model X.prog X.w) A (setAttr (.ref a) f u) Q E s := by
  obtain ⟨mA, O, r, wi, _, ho⟩ := ins_get I.hok e
  have hz : (fs.map (·.1)).length ≤ sizeLine := by rw [List.length_map, sizeLine_eq]; omega
  refine set_map I.kIn O c.sa c.po n.taker c.hd wi hz fun h' O' sb => h _ ?_
  have hd : ∃ o, h'.get? dx = some o := let ⟨o, _, _, e', _⟩ := O'.ns; ⟨o, e'⟩
  refine I.write (x := a) (e := dx) (by rw [e]; exact True.intro) (.inr ho) (fun b q hb z => (sb.2 b hb).trans z) hd ?_
  refine ⟨by rw [upd_ne O.ne]; exact ho, ?_, O.ne, O'.obj, _, O'.ns, fun g => ?_, fun g hg => ?_⟩
  · have := length_putF f y fs; omega
  · show RelO ((putF f y fs).lookup g) (if g = f then some u else mA g)
    rw [lookup_putF]
    by_cases q : g = f
    · rw [if_pos q, if_pos q]; exact ry
    · rw [if_neg q, if_neg q]; exact r g
  · by_cases q : g = f
    · rw [q]; exact (keys_putF f y fs).1
    · refine (keys_putF f y fs).2 g (wi g fun z => hg ?_)
      show (if g = f then some u else mA g) = none
      rw [if_neg q]; exact z

/-- a new instance, tracked, without attributes -/
theorem Inv.made (I : Inv X pins σ H s) : Inv X pins σ (upd (upd H s.heap.objs.size (.own (s.heap.objs.size + 1))) (s.heap.objs.size + 1) (.ins C s.heap.objs.size []))
    { s with heap := (s.heap.push PySem.W.emptyDict).push (PySem.W.instObj C s.heap.objs.size) } := by
  have e1 : (s.heap.push PySem.W.emptyDict).get? s.heap.objs.size = some PySem.W.emptyDict := Heap.get?_push_size s.heap rfl
  have e2 : ((s.heap.push PySem.W.emptyDict).push (PySem.W.instObj C s.heap.objs.size)).get? (s.heap.objs.size + 1) = some (PySem.W.instObj C s.heap.objs.size) := by
    have := Heap.get?_push_size (s.heap.push PySem.W.emptyDict) (o := PySem.W.instObj C s.heap.objs.size) rfl
    rwa [Heap.size_push] at this
  have e3 : (s.heap.push PySem.W.emptyDict).Ns s.heap.objs.size (fun _ => none) := ⟨PySem.W.emptyDict, #[], _, e1, rfl, (fun e he => absurd he (by simp)), fun _ => rfl⟩
  have I1 := I.laid (a := s.heap.objs.size) (o := .own (s.heap.objs.size + 1)) (h' := s.heap.push PySem.W.emptyDict) (t' := s.toks) (fun b u q => Heap.get?_push_of_some _ q) (Nat.le_refl _) ⟨_, e1⟩
  refine I1.laid (a := s.heap.objs.size + 1) (o := .ins C s.heap.objs.size []) (t' := s.toks) (fun b u q => Heap.get?_push_of_some _ q) (Nat.le_of_eq (Heap.size_push _ _)) ?_
  have ne : s.heap.objs.size ≠ s.heap.objs.size + 1 := Nat.ne_of_lt (Nat.lt_succ_self _)
  refine ⟨by rw [upd_ne ne, upd_same], Nat.zero_le _, ne, e2, fun _ => none, (Heap.Ns1.of_empty e3).at fun o q => Heap.get?_push_of_some _ q, fun _ => True.intro, fun y hy => absurd rfl hy⟩

/-- e.f where nothing but the object is asked: through attributeBase (super) and the last hold -/
theorem attr_of {prog : Program} {w : World} {env : Env} {e : Expr} {f : Str} {pos : Pos} {s : Shared} {Q : Value → Shared → Prop} (hb : attributeBase e f env (eval e env) = eval e env)
    (h : wpAny (model prog w) A (eval e env) (fun o s₁ => wpAny (model prog w) A (getAttr o f true) Q E s₁) E s) : wpAny (model prog w) A (eval (.Attribute e f pos) env) Q E s :=
  Attribute_any_ h (by rw [arm_eval_Attribute, hb])
end

/-! ### readings and rules -/
/-- e.f, an attribute of the instance -/
def tFld (K : PySem.W.Frag) (ta : TE) (f : Str) : TE := fun σ H Q => ta σ H fun x H1 => ∃ a C dx fs v, x = .ref a ∧ H1 a = some (.ins C dx fs) ∧ Cls K C ∧ NoAttr K C f ∧ fs.lookup f = some v ∧ Q v H1
/-- e.f = value -/
def sFld (K : PySem.W.Frag) (ta tv : TE) (f : Str) : TS := fun D σ H => tv σ H fun y H1 => ta σ H1 fun x H2 => ∃ a C dx fs, x = .ref a ∧ H2 a = some (.ins C dx fs) ∧ Cls K C ∧ NoAttr K C f ∧ fs.length < 1000 ∧
  D.nx σ (upd H2 a (.ins C dx (putF f y fs)))
/-- an augmented operator on two values -/
def InOp (X : Cx) (op : Operator) (rd : V → V → Hp → VK → Prop) : Prop :=
  ∀ (pins : List (Addr × Obj)) (s : Shared) (σ : St) (H : Hp) (x y : V) (u v : Value) (Q : VK), Inv X pins σ H s → RelV x u → RelV y v → rd x y H Q → wpAny (model X.prog X.w) X.A (inplaceOp op u v) (EP X pins σ Q) X.xe s
/-- e.f op= value -/
def sFldAug (K : PySem.W.Frag) (ta tv : TE) (rd : V → V → Hp → VK → Prop) (f : Str) : TS := fun D σ H => ta σ H fun x H1 => ∃ a C dx fs v, x = .ref a ∧ H1 a = some (.ins C dx fs) ∧ Cls K C ∧ NoAttr K C f ∧ fs.lookup f = some v ∧
  tv σ H1 fun y H2 => rd v y H2 fun z H3 => ∃ dx' fs', H3 a = some (.ins C dx' fs') ∧ fs'.length < 1000 ∧ D.nx σ (upd H3 a (.ins C dx' (putF f z fs')))

section
variable {X : Cx} {o e value : Expr} {f : Str} {pos pos' tpos : Pos} {ta tv : TE}
theorem pe_fld (he : PE X e ta) (hb : attributeBase e f X.env (eval e X.env) = eval e X.env) : PE X (.Attribute e f pos) (tFld X.K ta f) := by
  intro pins s σ H Q I h
  refine attr_of hb (thn (he pins s σ H _ I h) fun u s1 ⟨x, H1, I1, rx, a, C, dx, fs, v, ex, ea, c, n, l, q⟩ => ?_)
  subst ex
  obtain rfl : u = Value.ref a := rx
  exact getattr_ok I1 ea c n l fun u' s2 I2 ru => ⟨v, H1, I2, ru, q⟩
theorem ps_fld (ha : PE X o ta) (hv : PE X value tv) (hs : swapsWith value (some (.Attribute o f pos')) pos.line X.env = pure false) : PS X (.Assign [.Attribute o f pos'] value pos) (sFld X.K ta tv f) := by
  intro pins s σ H D I h
  refine plainObj_wpAny_Assign_Attribute (thn (hv pins s σ H _ I h) fun u s1 ⟨y, H1, I1, ry, q⟩ => thn (ha pins s1 σ H1 _ I1 q) fun ov s2 ⟨x, H2, I2, rx, a, C, dx, fs, ex, ea, c, n, l, q2⟩ => ?_) hs
  subst ex
  obtain rfl : ov = Value.ref a := rx
  exact setattr_ok I2 ea c n l ry fun s3 I3 => ⟨σ, _, I3, q2⟩
theorem ps_fldaug {op : Operator} {rd : V → V → Hp → VK → Prop} (ha : PE X o ta) (hv : PE X value tv) (hop : InOp X op rd) : PS X (.AugAssign (.Attribute o f tpos) op value pos) (sFldAug X.K ta tv rd f) := by
  intro pins s σ H D I h
  refine wpAny_AugAssign_AttributeAny (thn (ha pins s σ H _ I h) fun ov s1 ⟨x, H1, I1, rx, a, C, dx, fs, v, ex, ea, c, n, l, q⟩ => ?_)
  subst ex
  obtain rfl : ov = Value.ref a := rx
  refine getattr_ok I1 ea c n l fun u s2 I2 ru => thn (hv pins s2 σ H1 _ I2 q) fun w3 s3 ⟨y, H2, I3, ry, q3⟩ => thn (hop pins s3 σ H2 v y u w3 _ I3 ru ry q3) fun w4 s4 ⟨z, H3, I4, rz, dx', fs', ea', l', q4⟩ => ?_
  exact setattr_ok I4 ea' c n l' rz fun s5 I5 => ⟨σ, _, I5, q4⟩
def rAdd : V → V → Hp → VK → Prop := fun x y H Q => ∃ i j, x = .int i ∧ y = .int j ∧ Q (.int (i + j)) H
theorem in_add : InOp X .Add rAdd := by
  rintro pins s σ H x y u v Q I rx ry ⟨i, j, rfl, rfl, q⟩
  obtain ⟨t, rfl⟩ := (show ∃ t, u = Value.int i t from rx)
  obtain ⟨t', rfl⟩ := (show ∃ t', v = Value.int j t' from ry)
  exact PyProof.Rows.iadd_int ⟨.int (i + j), H, I.tok _, ⟨_, rfl⟩, q⟩
end

/-! ### isinstance -/
section
variable {X : Cx} {pins : List (Addr × Obj)} {σ : St} {H : Hp} {s : Shared} {A : Around} {E : Value → Shared → Prop} {Q : Value → Shared → Prop} {c : Value} {b : Bool}
end
end L2

namespace L2
open PySem PySem.Spec PyProof.Rows

/-! ### room -/
structure Room (k : Nat) (A : Around) : Prop where
  hd : A.handled = none
  dp : A.depth + 3 * k + 5 < recursionLimit
  un : A.units + 16 * k + 200 < cLine
theorem Room.mono {j k : Nat} {A : Around} (r : Room k A) (h : j ≤ k) : Room j A := ⟨r.hd, by have := r.dp; omega, by have := r.un; omega⟩
theorem Room.deeper {k : Nat} {A : Around} (r : Room (k + 1) A) (env : Env) : Room k (A.deeper env) :=
  ⟨r.hd, by have := r.dp; show A.depth + 1 + 3 * k + 5 < _; omega, by have := r.un; show A.units + 3 + 16 * k + 200 < _; omega⟩
theorem make_depth {A : Around} {C : Addr} {us : List Value} {kw : List (Str × Value)} : (A.under (.builtin "type.__call__" ⟨.ref C :: us, kw⟩)).depth = A.depth + 1 := by
  first | rfl | simp [Around.under, Code.weight, Code.isCreation, Code.isGuard, Code.isCaller, Code.frames, Code.isFrame, guardIds]
theorem make_units {A : Around} {C : Addr} {us : List Value} {kw : List (Str × Value)} : (A.under (.builtin "type.__call__" ⟨.ref C :: us, kw⟩)).units = A.units + 1 := by
  first | rfl | simp [Around.under, Code.cUnits, Code.frames, Code.isFrame]
theorem Room.make {k : Nat} {A : Around} (r : Room (k + 1) A) (C : Addr) (us : List Value) (kw : List (Str × Value)) : Room k (A.under (.builtin "type.__call__" ⟨.ref C :: us, kw⟩)) :=
  ⟨r.hd, by have := r.dp; rw [make_depth]; omega, by have := r.un; rw [make_units]; omega⟩
theorem Room.depth {k : Nat} {A : Around} (r : Room k A) : A.depth < recursionLimit := by have := r.dp; omega
theorem Room.units0 {k : Nat} {A : Around} (r : Room k A) : A.units < cLine := by have := r.un; omega

/-! ### argument lists and displays -/
def tNil : TA := fun _ H Q => Q [] H
def tCons (ta : TE) (tr : TA) : TA := fun σ H Q => ta σ H fun x H1 => tr σ H1 fun xs H2 => Q (x :: xs) H2
section
variable {X : Cx} {e : Expr} {es : List Expr} {te : TE} {t : TA} {pos : Pos}
theorem pa_nil : PA X [] tNil := fun _ _ _ _ H Q I h => Calls.spliced_nil ⟨[], H, I, .nil, h⟩
theorem pa_cons (ha : PE X e te) (hr : PA X es t) (hs : starEach (e :: es) X.env = (false, eval e X.env) :: starEach es X.env := by rfl) : PA X (e :: es) (tCons te t) := by
  intro pos pins s σ H Q I h
  rw [hs]
  show wpAny _ _ (spliced ((false, eval e X.env) :: backTo pos (starEach es X.env))) _ _ s
  refine Calls.spliced_cons (thn (ha pins s σ H _ I h) fun u s1 ⟨x, H1, I1, r1, q1⟩ => ?_)
  exact thn (hr pos pins s1 σ H1 _ I1 q1) fun us s2 ⟨xs, H2, I2, r2, q2⟩ => ⟨x :: xs, H2, I2, .cons r1 r2, q2⟩

/-- a tuple, a list of written items -/
def tTup (t : TA) : TE := fun σ H Q => t σ H fun xs H1 => xs.length ≤ sizeLine ∧ ∀ p, H1 p = none → Q (.ref p) (upd H1 p (.tup xs))
def tLst (t : TA) : TE := fun σ H Q => t σ H fun xs H1 => xs.length ≤ sizeLine ∧ ∀ p, H1 p = none → Q (.ref p) (upd H1 p (.lst xs))
theorem pe_tup {x1} (h : PA X es t) : PE X (.Tuple es x1 pos) (tTup t) := by
  intro pins s σ H Q I hq
  refine wpAny_Tuple_spliced (thn (h pos pins s σ H _ I hq) fun us s1 ⟨xs, H1, I1, r, z, q⟩ => ⟨by rw [← r.length]; exact z, ?_⟩)
  have hf : H1 s1.heap.objs.size = none := I1.hok.fresh (Nat.le_refl _)
  refine ⟨.ref s1.heap.objs.size, upd H1 s1.heap.objs.size (.tup xs), I1.laid (t' := s1.toks) (fun b u e => Heap.get?_push_of_some _ e) (Nat.le_refl _) ?_, rfl, q _ hf⟩
  exact ⟨z, us, r, ⟨_, Heap.get?_push_size _ rfl, rfl, _, rfl⟩⟩
theorem pe_lst (h : PA X es t) : PE X (.List es pos) (tLst t) := by
  intro pins s σ H Q I hq
  refine wpAny_List_spliced (thn (h pos pins s σ H _ I hq) fun us s1 ⟨xs, H1, I1, r, z, q⟩ => ⟨by rw [← r.length]; exact z, ?_⟩)
  have hf : H1 s1.heap.objs.size = none := I1.hok.fresh (Nat.le_refl _)
  refine ⟨.ref s1.heap.objs.size, upd H1 s1.heap.objs.size (.lst xs), I1.laid (t' := s1.toks) (fun b u e => Heap.get?_push_of_some _ e) (Nat.le_refl _) ?_, rfl, q _ hf⟩
  exact ⟨z, us, 0, r, Heap.get?_push_size _ rfl⟩
end

/-! ### what a def promises -/
/-- a def's promise: the bound arguments in the parameters' order, the heap, the wanted end, the wanted exception -/
abbrev Sp := List V → Hp → VK → XK → Prop
/-- how an exception lies behind a call (file 08 gives it): the callers' frames, abstract heap and state ahead of the call, the wish, the exception, the state -/
abbrev CXT := List Env → Hp → Shared → XK → Value → Shared → Prop

/-- the state at a call -/
structure Env0 (P : Program) (w : World) (K : PySem.W.Frag) (mg : Str → Option Value) (base : Heap) (A : Around) (outer : List Env) (s : Shared) (H : Hp) : Prop where
  frames : A.frames = some outer
  mod : Mod K mg base
  bs : ∀ b o, base.get? b = some o → s.heap.get? b = some o ∧ H b = none
  bsz : base.objs.size ≤ s.heap.objs.size
  funs : s.heap.FunFrames base outer
  frf : ∀ b ∈ frs outer, H b = none
  hok : HOk P w H s.heap
  bare : AllBare s.gens
/-- a call's end -/
def CE (outer : List Env) (P : Program) (w : World) (H : Hp) (s : Shared) (Q : VK) (u : Value) (s' : Shared) : Prop :=
  ∃ v H', s'.os = s.os ∧ AllBare s'.gens ∧ Un (frs outer) [] H H' s.heap s'.heap ∧ HOk P w H' s'.heap ∧ RelV v u ∧ Q v H'
def CR (CX : CXT) (outer : List Env) (P : Program) (w : World) (H : Hp) (s : Shared) (Q : VK) (E : XK) (r : Result) (s' : Shared) : Prop :=
  match r with
  | .ok (.ret u) => CE outer P w H s Q u s'
  | .ok _ => False
  | .error e => CX outer H s E e s'
structure FnOk (P : Program) (w : World) (K : PySem.W.Frag) (mg : Str → Option Value) (base : Heap) (CX : CXT) (k : Nat) (f : Addr) (fd : FuncData) (ps : List Str) (sp : Sp) : Prop where
  len : ∀ vs H Q E, sp vs H Q E → vs.length = ps.length
  run : ∀ (A : Around) (outer : List Env) (s : Shared) (H : Hp) (args : Args) (us : List Value) (vs : List V) (Q : VK) (E : XK), Room k A → Env0 P w K mg base A outer s H → BindsTo s fd args (ps.zip us) → Vals vs us → sp vs H Q E →
    codeAny (model P w) A (.call (.ref f) args) (CR CX outer P w H s Q E) s
theorem Env0.make {P : Program} {w : World} {K : PySem.W.Frag} {mg : Str → Option Value} {base : Heap} {A : Around} {outer : List Env} {s : Shared} {H : Hp} (e : Env0 P w K mg base A outer s H) (C : Addr) (us : List Value) (kw : List (Str × Value)) :
    Env0 P w K mg base (A.under (.builtin "type.__call__" ⟨.ref C :: us, kw⟩)) outer s H := ⟨by first | exact e.frames | (simpa [Around.under, Code.envs, Code.isFrame, pushEnvs] using e.frames), e.mod, e.bs, e.bsz, e.funs, e.frf, e.hok, e.bare⟩
section
variable {X : Cx} {pins : List (Addr × Obj)} {σ : St} {H : Hp} {s s' : Shared}
/-- from a body: what a callee wants -/
theorem Inv.env0 (I : Inv X pins σ H s) : Env0 X.prog X.w X.K X.mg X.base X.A X.stack s H :=
  ⟨I.ok.frames, I.ok.mod, I.bs, Nat.le_trans I.ok.bsz I.sz, I.stack, I.stkFree, I.hok, I.bare⟩
/-- behind a call -/
theorem Inv.after {Q : VK} {u : Value} (I : Inv X pins σ H s) (h : CE X.stack X.prog X.w H s Q u s') : EP X pins σ Q u s' := by
  obtain ⟨v, H', os, bare, un, hok, r, q⟩ := h
  obtain ⟨hh, g, d, t, os'⟩ := s'
  obtain rfl : os' = s.os := os
  exact ⟨v, H', I.call (h' := hh) (g' := g) (d' := d) (t' := t) (ch := []) un hok bare (fun b z => absurd z (by simp)), r, q⟩
end

/-! ### calls -/
/-- f(..): the written arguments, then the defaults dvs; E: what is wanted of an exception -/
def tCall (sp : Sp) (dvs : List V) (E : XK) (t : TA) : TE := fun σ H Q => t σ H fun vs H1 => sp (vs ++ dvs) H1 Q E
/-- o.m(..) of an instance of the class at C -/
def tMeth (C : Addr) (m : Str) (sp : Sp) (dvs : List V) (E : XK) (ta : TE) (t : TA) : TE := fun σ H Q => ta σ H fun x H1 => ∃ a dx fs, x = .ref a ∧ H1 a = some (.ins C dx fs) ∧ fs.lookup m = none ∧
  t σ H1 fun vs H2 => sp (x :: (vs ++ dvs)) H2 Q E
/-- C(..): a new instance and its dict, then __init__ -/
def tMake (C : Addr) (sp : Sp) (dvs : List V) (E : XK) (t : TA) : TE := fun σ H Q => t σ H fun vs H1 => ∀ x dx, H1 x = none → H1 dx = none → dx ≠ x →
  sp (.ref x :: (vs ++ dvs)) (upd (upd H1 dx (.own x)) x (.ins C dx [])) (fun v H2 => v = .non ∧ Q (.ref x) H2) E

/-- how the parameters are bound: us the positional arguments, kw the keywords' values by name, ds the defaults that fill up -/
def Binds (K : PySem.W.Frag) (fd : FuncData) (ps : List Str) (ds : List Value) : Prop :=
  ∀ (s : Shared) (us : List Value), K.In s.heap → (us ++ ds).length = ps.length → BindsTo s fd ⟨us, []⟩ (ps.zip (us ++ ds))
/-- every parameter is given -/
theorem Binds.all {K : PySem.W.Frag} {fd : FuncData} {ps : List Str} (h : ∀ us : List Value, us.length = ps.length → bindArgs fd ⟨us, []⟩ = pure (ps.zip us)) : Binds K fd ps [] := fun s us _ hl => by
  rw [List.append_nil] at hl ⊢
  exact .of_eq (h us hl)

/-- an exception of a callee reaches what this body wants of exceptions -/
def Passes (CX : CXT) (X : Cx) (E : XK) : Prop := ∀ (pins : List (Addr × Obj)) (σ : St) (H : Hp) (s : Shared) (e : Value) (s' : Shared), Inv X pins σ H s → CX X.stack H s E e s' → X.xe e s'

section
variable {X : Cx} {CX : CXT} {k : Nat} {f C : Addr} {fd : FuncData} {ps : List Str} {sp : Sp} {dvs : List V} {ds : List Value} {E : XK} {x m : Str} {p pos apos : Pos} {e o : Expr} {es : List Expr} {ta : TE} {t : TA}

/-- the callee runs -/
theorem run_fn {pins : List (Addr × Obj)} {σ : St} {H : Hp} {s : Shared} {Q : VK} {us : List Value} {vs : List V} (F : FnOk X.prog X.w X.K X.mg X.base CX k f fd ps sp) (hr : Room k X.A) (hb : Binds X.K fd ps ds) (hd : Vals dvs ds) (hx : Passes CX X E)
    (I : Inv X pins σ H s) (r : Vals vs us) (h : sp (vs ++ dvs) H Q E) : wpAny (model X.prog X.w) X.A (call (.ref f) us) (EP X pins σ Q) X.xe s := by
  have r2 : Vals (vs ++ dvs) (us ++ ds) := r.append hd
  have hl : (us ++ ds).length = ps.length := by rw [← r2.length]; exact F.len _ _ _ _ h
  refine wpAny_call (codeAny_mono (F.run X.A X.stack s H ⟨us, []⟩ (us ++ ds) (vs ++ dvs) Q E hr I.env0 (hb s us I.kIn hl) r2 h) fun r s' hq => ?_)
  cases r with
  | error e => exact hx pins σ H s e s' I hq
  | ok fl =>
    cases fl with
    | ret u => exact I.after hq
    | next => exact False.elim hq
    | brk => exact False.elim hq
    | cont => exact False.elim hq

theorem pe_call (F : FnOk X.prog X.w X.K X.mg X.base CX k f fd ps sp) (hr : Room k X.A) (hg : Gl X x) (hm : X.mg x = some (.ref f)) (hk : PySem.W.keepIn X.K (.ref f) = true) (hb : Binds X.K fd ps ds) (hd : Vals dvs ds) (hx : Passes CX X E)
    (ha : PA X (e :: es) t) (hdb : (x == ("__debug__" : Str)) = false := by decide) (he : starEach (e :: es) X.env = (false, eval e X.env) :: starEach es X.env := by rfl) (hpl : (backTo pos (starEach es X.env)).any (·.1) = false := by rfl) :
    PE X (.Call (.Name x p) (e :: es) [] pos) (tCall sp dvs E t) := by
  intro pins s σ H Q I h
  refine wpAny_Call_Name_kw (ld_glob I hg hm ?_ hdb)
  refine PySem.W.callWith_K (h₀ := X.base) I.ok.mod.kin hk (thn (ha pos pins s σ H _ I h) fun us s1 ⟨vs, H1, I1, r, q⟩ => ⟨I1.kIn, ?_⟩) he hpl
  exact run_fn F hr hb hd hx I1 r q
/-- o.m(e, ..) -/
theorem pe_meth {pl : Sem Bool} (he : PE X o ta) (c : Cls X.K C) (hm : Meth X.K C m f) (F : FnOk X.prog X.w X.K X.mg X.base CX k f fd ps sp) (hr : Room k X.A) (hb : Binds X.K fd ps ds) (hd : Vals dvs ds) (hx : Passes CX X E) (ha : PA X (e :: es) t)
    (hst : starEach (e :: es) X.env = (false, eval e X.env) :: starEach es X.env := by rfl) (hpl : (backTo pos (starEach es X.env)).any (·.1) = false := by rfl)
    (ht : eval (.Call (.Attribute o m apos) (e :: es) [] pos) X.env = (do
      let ov ← eval o X.env
      standAt apos.atName
      let (f, first) ← holding [ov] (getMethod ov m pl)
      callWith pos f first (backTo pos (starEach (e :: es) X.env)) (backToKw pos (keywordEach [] X.env))) := by rfl) :
    PE X (.Call (.Attribute o m apos) (e :: es) [] pos) (tMeth C m sp dvs E ta t) := by
  intro pins s σ H Q I h
  refine PySem.W.methodCall_KW (pl := pl) (thn (he pins s σ H _ I h) fun u s1 ⟨x, H1, I1, rx, a, dx, fs, ex, ea, l, q⟩ => ?_) ht
  subst ex
  obtain rfl : u = Value.ref a := rx
  refine getmeth_ok I1 ea c hm l ?_
  refine PySem.W.callWith_K (first := [.ref a]) (h₀ := X.base) I.ok.mod.kin hm.kp (thn (ha pos pins s1 σ H1 _ I1 q) fun us s2 ⟨vs, H2, I2, r, q2⟩ => ⟨I2.kIn, ?_⟩) hst hpl
  exact run_fn (us := .ref a :: us) (vs := .ref a :: vs) F hr hb hd hx I2 (.cons rfl r) q2
/-- o.m() -/
theorem pe_meth0 {pl : Sem Bool} (he : PE X o ta) (c : Cls X.K C) (hm : Meth X.K C m f) (F : FnOk X.prog X.w X.K X.mg X.base CX k f fd ps sp) (hr : Room k X.A) (hb : Binds X.K fd ps ds) (hd : Vals dvs ds) (hx : Passes CX X E)
    (ht : eval (.Call (.Attribute o m apos) [] [] pos) X.env = (do
      let ov ← eval o X.env
      standAt apos.atName
      let (f, first) ← holding [ov] (getMethod ov m pl)
      callWith pos f first (backTo pos (starEach [] X.env)) (backToKw pos (keywordEach [] X.env))) := by rfl) :
    PE X (.Call (.Attribute o m apos) [] [] pos) (tMeth C m sp dvs E ta tNil) := by
  intro pins s σ H Q I h
  refine PySem.W.methodCall_KW (pl := pl) (thn (he pins s σ H _ I h) fun u s1 ⟨x, H1, I1, rx, a, dx, fs, ex, ea, l, q⟩ => ?_) ht
  subst ex
  obtain rfl : u = Value.ref a := rx
  refine getmeth_ok I1 ea c hm l ?_
  exact PySem.W.callWith_K0 (first := [.ref a]) I1.kIn hm.kp (run_fn (us := [.ref a]) (vs := [.ref a]) F hr hb hd hx I1 (.cons rfl .nil) q)

/-- what a class must have to be made -/
structure Mk (K : PySem.W.Frag) (C f : Addr) : Prop where
  makes : PySem.W.makesIn K C = true
  init : PySem.W.findIn K (.ref C) "__init__" = some (some (.ref f))
  fn : PySem.W.isFn K (.ref f) = true
  kp : PySem.W.keepIn K (.ref C) = true

theorem run_make {pins : List (Addr × Obj)} {σ : St} {H : Hp} {s : Shared} {Q : VK} {us : List Value} {vs : List V} (M : Mk X.K C f) (F : FnOk X.prog X.w X.K X.mg X.base CX k f fd ps sp) (hr : Room (k + 1) X.A) (hb : Binds X.K fd ps ds) (hd : Vals dvs ds)
    (hx : Passes CX X E) (I : Inv X pins σ H s) (r : Vals vs us)
    (h : ∀ x dx, H x = none → H dx = none → dx ≠ x → sp (.ref x :: (vs ++ dvs)) (upd (upd H dx (.own x)) x (.ins C dx [])) (fun v H2 => v = .non ∧ Q (.ref x) H2) E) :
    wpAny (model X.prog X.w) X.A (call (.ref C) us) (EP X pins σ Q) X.xe s := by
  have hq := h (s.heap.objs.size + 1) s.heap.objs.size (I.hok.fresh (Nat.le_succ _)) (I.hok.fresh (Nat.le_refl _)) (Nat.ne_of_lt (Nat.lt_succ_self _))
  have I2 := Inv.made (C := C) I
  have r2 : Vals (V.ref (s.heap.objs.size + 1) :: (vs ++ dvs)) (Value.ref (s.heap.objs.size + 1) :: (us ++ ds)) := .cons rfl (r.append hd)
  have hl : (Value.ref (s.heap.objs.size + 1) :: us ++ ds).length = ps.length := by
    have e := r2.length
    rw [F.len _ _ _ _ hq] at e
    exact e.symm
  refine wpAny_call (make_map (f := f) I.kIn M.makes M.init (beq_iff_eq.mp M.fn) (codeAny_mono (F.run _ X.stack _ _ ⟨Value.ref (s.heap.objs.size + 1) :: us, []⟩ (Value.ref (s.heap.objs.size + 1) :: (us ++ ds)) _ _ E (hr.make C us [])
    (I2.env0.make C us []) (hb _ (Value.ref (s.heap.objs.size + 1) :: us) I2.kIn hl) r2 hq) fun r s' hq' => ?_))
  cases r with
  | error e => exact hx pins σ _ _ e s' I2 hq'
  | ok fl =>
    cases fl with
    | ret u =>
      obtain ⟨v, H', I3, rv, ev, q3⟩ := I2.after hq'
      subst ev
      exact ⟨rv, ⟨V.ref (s.heap.objs.size + 1), H', I3, rfl, q3⟩⟩
    | next => exact False.elim hq'
    | brk => exact False.elim hq'
    | cont => exact False.elim hq'
theorem pe_make (M : Mk X.K C f) (F : FnOk X.prog X.w X.K X.mg X.base CX k f fd ps sp) (hr : Room (k + 1) X.A) (hg : Gl X x) (hm : X.mg x = some (.ref C)) (hb : Binds X.K fd ps ds) (hd : Vals dvs ds) (hx : Passes CX X E)
    (ha : PA X (e :: es) t) (hdb : (x == ("__debug__" : Str)) = false := by decide) (he : starEach (e :: es) X.env = (false, eval e X.env) :: starEach es X.env := by rfl) (hpl : (backTo pos (starEach es X.env)).any (·.1) = false := by rfl) :
    PE X (.Call (.Name x p) (e :: es) [] pos) (tMake C sp dvs E t) := by
  intro pins s σ H Q I h
  refine wpAny_Call_Name_kw (ld_glob I hg hm ?_ hdb)
  refine PySem.W.callWith_K (h₀ := X.base) I.ok.mod.kin M.kp (thn (ha pos pins s σ H _ I h) fun us s1 ⟨vs, H1, I1, r, q⟩ => ⟨I1.kIn, ?_⟩) he hpl
  exact run_make M F hr hb hd hx I1 r q
end

section
variable {X : Cx} {CX : CXT} {k : Nat} {f C : Addr} {fd : FuncData} {ps ks : List Str} {sp : Sp} {E : XK} {x m : Str} {p pos apos kpos : Pos} {e o : Expr} {es : List Expr} {kws : List Keyword} {te ta : TE} {t tk : TA} {nm : Option Str}
variable {g : List Value → List Value → List Value} {gV : List V → List V → List V}
end

/-! ### a def's body keeps its promise -/
/-- names: the parameters first -/
structure FnScope (N P : List Str) (sc : Scope) : Prop where
  kind : sc.kind = .function
  co : sc.isCoroutine = false
  gen : sc.isGenerator = false
  nd : N.Nodup
  pre : N.take P.length = P
  par : ∀ x ∈ P, sc.names.lookup x = some .local ∨ sc.names.lookup x = some .cell
  nofree : ∀ y ∈ sc.names, y.2 ≠ .free

theorem bindL_out {kindOf : Str → Option NameKind} {x : Str} : ∀ {binds : List (Str × Value)} {m : Str → Option Value}, (∀ v, (x, v) ∉ binds) → bindL kindOf binds m x = m x
  | [], _, _ => rfl
  | (n, v) :: r, m, h => by
    unfold bindL
    rw [bindL_out fun w hw => h w (List.mem_cons_of_mem _ hw)]
    split
    · have : x ≠ n := by rintro rfl; exact h v List.mem_cons_self
      simp [this]
    · rfl
theorem bindC_out {kindOf : Str → Option NameKind} {x : Str} : ∀ {binds : List (Str × Value)} {m : Str → Option Value}, (∀ v, (x, v) ∉ binds) → bindC kindOf binds m x = m x
  | [], _, _ => rfl
  | (n, v) :: r, m, h => by
    unfold bindC
    rw [bindC_out fun w hw => h w (List.mem_cons_of_mem _ hw)]
    split
    · rfl
    · have : x ≠ n := by rintro rfl; exact h v List.mem_cons_self
      simp [this]
theorem bindL_get {kindOf : Str → Option NameKind} {x : Str} {v : Value} : ∀ {P : List Str} {vs : List Value} {i : Nat} {m : Str → Option Value}, P.Nodup → P[i]? = some x → vs[i]? = some v → kindOf x = some .local →
    bindL kindOf (P.zip vs) m x = some v
  | [], _, _, _, _, h, _, _ => by simp at h
  | _ :: _, [], _, _, _, _, h, _ => by simp at h
  | p :: P, w :: vs, 0, m, nd, h1, h2, hk => by
    simp at h1 h2; subst h1; subst h2
    show bindL kindOf ((p, w) :: P.zip vs) m p = _
    unfold bindL
    rw [bindL_out fun v hv => (List.nodup_cons.mp nd).1 (List.of_mem_zip hv).1, if_pos hk]
    simp
  | p :: P, w :: vs, i + 1, m, nd, h1, h2, hk => by
    show bindL kindOf ((p, w) :: P.zip vs) m x = _
    unfold bindL
    exact bindL_get (i := i) (List.nodup_cons.mp nd).2 (by simpa using h1) (by simpa using h2) hk
theorem bindC_get {kindOf : Str → Option NameKind} {x : Str} {v : Value} : ∀ {P : List Str} {vs : List Value} {i : Nat} {m : Str → Option Value}, P.Nodup → P[i]? = some x → vs[i]? = some v → kindOf x ≠ some .local →
    bindC kindOf (P.zip vs) m x = some v
  | [], _, _, _, _, h, _, _ => by simp at h
  | _ :: _, [], _, _, _, _, h, _ => by simp at h
  | p :: P, w :: vs, 0, m, nd, h1, h2, hk => by
    simp at h1 h2; subst h1; subst h2
    show bindC kindOf ((p, w) :: P.zip vs) m p = _
    unfold bindC
    rw [bindC_out fun v hv => (List.nodup_cons.mp nd).1 (List.of_mem_zip hv).1, if_neg hk]
    simp
  | p :: P, w :: vs, i + 1, m, nd, h1, h2, hk => by
    show bindC kindOf ((p, w) :: P.zip vs) m x = _
    unfold bindC
    exact bindC_get (i := i) (List.nodup_cons.mp nd).2 (by simpa using h1) (by simpa using h2) hk

/-- the names' values at the entry -/
def start (N : List Str) (vs : List V) : St := vs.map some ++ List.replicate (N.length - vs.length) none

/-- the context of a def's body, at its entry; an exception leaves the frame, then lies as CX says -/
def cxOf (CX : CXT) (P : Program) (w : World) (K : PySem.W.Frag) (mg : Str → Option Value) (base : Heap) (N : List Str) (qual : Str) (scope : Scope) (f : Addr) (cd : Value) (A : Around) (outer : List Env) (s : Shared) (H : Hp) (E : XK) : Cx where
  prog := P
  w := w
  K := K
  mg := mg
  base := base
  A := A.deeper (envOfC qual scope s.heap.objs.size f cd)
  N := N
  s_0 := s
  H_0 := H
  env := envOfC qual scope s.heap.objs.size f cd
  outer := outer
  stack := envOfC qual scope s.heap.objs.size f cd :: outer
  ex := []
  calm := true
  fn := fun _ => true
  pn := []
  xe := fun e s' => wpAny (model P w) (A.deeper (envOfC qual scope s.heap.objs.size f cd)) (leaving (envOfC qual scope s.heap.objs.size f cd) e) (fun _ s'' => CX outer H s E e s'') (fun e' s'' => CX outer H s E e' s'') s'

theorem cell_has {sc : Scope} {n : Nat} {x : Str} (h : sc.names.lookup x = some .cell) : ∃ c, (cellsFrom n sc.names []).lookup x = some c := by
  have q := PySem.W.cellsFrom_some sc.names n [] (.inl h)
  exact Option.isSome_iff_exists.mp q

theorem inv_start {CX : CXT} {P : Program} {w : World} {K : PySem.W.Frag} {mg : Str → Option Value} {base : Heap} {N ps : List Str} {qual : Str} {scope : Scope} {f : Addr} {cd : Value} {A : Around} {outer : List Env} {s s1 : Shared} {H : Hp} {E : XK} {us : List Value} {vs : List V}
    (S : FnScope N ps scope) (hd : A.handled = none) (e0 : Env0 P w K mg base A outer s H) (hl : vs.length = ps.length) (r : Vals vs us)
    (x : InCallC s s.heap.objs.size (bindL (envOfC qual scope s.heap.objs.size f cd).kindOf (ps.zip us) fun _ => none) (cellsFrom (s.heap.objs.size + 1) scope.names []) (bindC (envOfC qual scope s.heap.objs.size f cd).kindOf (ps.zip us) fun _ => none) s1) :
    Inv (cxOf CX P w K mg base N qual scope f cd A outer s H E) [] (start N vs) H s1 := by
  have hpl : ps.length ≤ N.length := by have := congrArg List.length S.pre; rw [List.length_take] at this; omega
  obtain ⟨h1, tk, rfl, hk⟩ := x.done
  have noA : ∀ b : Addr, b ∉ (cxOf CX P w K mg base N qual scope f cd A outer s H E).ex := fun b z => absurd (show b ∈ ([] : List Addr) from z) (by simp)
  refine ⟨⟨e0.mod, S.kind, rfl, rfl, Nat.le_refl _, fun y z c h1 h2 => ?_, fun y hy => ?_, fun y c _ h => ?_, fun _ => hd, Around.frames_deeper e0.frames, .inr ⟨rfl, rfl⟩, fun b z => absurd z (noA b), e0.bs, e0.bsz, fun b _ _ => noA b, fun b z => absurd z (noA b), e0.funs, e0.frf⟩,
    rfl, e0.bare, Un.kept hk, ⟨_, x.toInCall.ns, fun i y v h1 h2 h3 => ?_⟩, fun y c h => ⟨_, x.cell y c h⟩, e0.hok.fresh (Nat.le_refl _), fun y c h => ?_, fun p hp => absurd (show p ∈ ([] : List (Addr × Obj)) from hp) (by simp), e0.hok.kept hk, ?_⟩
  · exact name_of_addr x.apart (PySem.mem_of_lookup h1) (PySem.mem_of_lookup h2)
  · have hy : scope.names.lookup y = some .cell ∨ scope.names.lookup y = some .free := hy
    rcases hy with hy | hy
    · exact cell_has hy
    · exact absurd rfl (S.nofree _ (PySem.mem_of_lookup hy))
  · exact Nat.le_of_lt (x.above y c (PySem.mem_of_lookup h))
  · have hi : i < vs.length := by
      unfold start at h2
      by_cases hi : i < vs.length
      · exact hi
      · rw [List.getElem?_append_right (by simpa using hi)] at h2
        rw [List.getElem?_replicate] at h2
        split at h2 <;> cases h2
    have ha : vs[i]? = some v := by
      unfold start at h2
      rw [List.getElem?_append_left (by simpa using hi), List.getElem?_map] at h2
      cases e : vs[i]? with
      | none => rw [e] at h2; cases h2
      | some a => rw [e] at h2; cases h2; rfl
    obtain ⟨u, hu, rv⟩ := r.get ha
    have hp : ps[i]? = some y := by
      rw [← S.pre, List.getElem?_take_of_lt (by omega)]; exact h1
    have ndP : ps.Nodup := by rw [← S.pre]; exact S.nd.sublist (List.take_sublist _ _)
    refine ⟨u, rv, ?_⟩
    rcases S.par y (List.mem_of_getElem? hp) with k | k
    · exact .inl ⟨k, bindL_get ndP hp hu k⟩
    · obtain ⟨c, e⟩ := cell_has (n := s.heap.objs.size + 1) k
      refine .inr ⟨.inl k, c, e, ?_⟩
      have q := x.cell y c e
      rw [bindC_get ndP hp hu (by show scope.names.lookup y ≠ _; rw [k]; decide)] at q
      exact q
  · exact e0.hok.fresh (Nat.le_of_lt (x.above y c (PySem.mem_of_lookup h)))
  · unfold start
    show _ = N.length
    rw [List.length_append, List.length_map, List.length_replicate]
    omega

/-- THE RULE: a def (or a method) of the text, by its body. The body's reading t is chosen for each entry; it is run at the parameters' values -/
theorem fn_of {CX : CXT} {P : Program} {w : World} {K : PySem.W.Frag} {mg : Str → Option Value} {base : Heap} {k : Nat} {f : Addr} {name qual : Str} {params : Arguments} {body : List Stmt} {scope : Scope} {dV kV doc pm cdv ct oc : Value} {an od : Option Addr}
    {osl : Array (Option Value)} {N ps : List Str} {sp : Sp} (lk : K.lookup f = some ⟨oc, od, .func (PySem.W.fnOf name qual params body scope dV kV doc pm an cdv ct), osl⟩) (hcd : PySem.W.codeIn K cdv qual = true) (S : FnScope N ps scope)
    (len : ∀ vs H Q E, sp vs H Q E → vs.length = ps.length)
    (hbody : ∀ (A : Around) (outer : List Env) (s : Shared) (H : Hp) (vs : List V) (Q : VK) (E : XK), Room k (A.deeper (envOfC qual scope s.heap.objs.size f cdv)) → sp vs H Q E →
      ∃ t, PSs (cxOf CX P w K mg base N qual scope f cdv A outer s H E) body t ∧ t { nx := fun _ H' => Q .non H', rt := Q } (start N vs) H) :
    FnOk P w K mg base CX (k + 1) f (PySem.W.fnOf name qual params body scope dV kV doc pm an cdv ct) ps sp := by
  refine ⟨len, fun A outer s H args us vs Q E hr e0 hb r hsp => ?_⟩
  have hl := len _ _ _ _ hsp
  have KX : K.In s.heap := e0.mod.kin.keeps fun b o e => (e0.bs b o e).1
  have lim : s.heap.NoLimit := e0.mod.nolimit.keeps fun b o e => (e0.bs b o e).1
  have hkind : ∀ y ∈ ps.zip us, scope.names.lookup y.1 = some .local ∨ (scope.names.lookup y.1 = some .cell ∧ ((cellsFrom (s.heap.objs.size + 1) scope.names []).lookup y.1).isSome = true) := fun ⟨n, v⟩ hy => by
    rcases S.par n (List.of_mem_zip hy).1 with q | q
    · exact .inl q
    · exact .inr ⟨q, PySem.W.cellsFrom_some _ _ _ (.inl q)⟩
  refine codeAny_call_function hr.depth (KX _ _ lk) rfl S.co S.gen rfl (PySem.W.codeRec_of KX hcd) (hb _ _ _ _ ?_)
  refine wpAny_newFunctionEnv_cells S.kind hkind fun env he s1 x => ?_
  subst he
  refine ⟨lim.keeps x.toInCall.keep, codeAny_func ?_⟩
  obtain ⟨t, ht, hq⟩ := hbody A outer s H vs Q E (hr.deeper _) hsp
  have I : Inv (cxOf CX P w K mg base N qual scope f cdv A outer s H E) [] (start N vs) H s1 := inv_start S hr.hd e0 hl r x
  refine wpAny_mono (ht [] s1 (start N vs) H _ I hq) (fun fl s' hs => ?_) fun e s' hs => hs
  have fin : ∀ {σ' : St} {H' : Hp} {v : V} {u : Value}, Inv (cxOf CX P w K mg base N qual scope f cdv A outer s H E) [] σ' H' s' → RelV v u → Q v H' → CE outer P w H s Q u s' :=
    fun {σ' H' v u} J rv q => ⟨v, H', J.os, J.bare, J.base, J.hok, rv, q⟩
  cases fl with
  | ret u =>
    obtain ⟨v, σ', H', J, rv, q⟩ := hs
    exact fin J rv q
  | next =>
    obtain ⟨σ', H', J, q⟩ := hs
    exact fin (v := V.non) (u := Value.none) J rfl q
  | brk =>
    obtain ⟨_, _, _, q⟩ := hs
    exact False.elim q
  | cont =>
    obtain ⟨_, _, _, q⟩ := hs
    exact False.elim q
end L2

namespace L2
open PySem PySem.Spec PyProof.Rows
section
variable {X : Cx} {x : Str} {p pos : Pos} {e : Expr} {es : List Expr} {t : TA} {id T : String} {r : List V → Hp → VK → Prop}

def tCB (r : List V → Hp → VK → Prop) (t : TA) : TE := fun σ H Q => t σ H fun vs H1 => r vs H1 Q
/-- f(e, ..), f a built-in function -/
theorem pe_callB (hc : CallR X (.builtin id) r) (hg : Gl X x) (hm : X.mg x = none) (hv : bootBuiltins x = some (.builtin id)) (ha : PA X (e :: es) t) (hn : x ≠ "__name__" := by decide) (hdb : (x == ("__debug__" : Str)) = false := by decide)
    (he : starEach (e :: es) X.env = (false, eval e X.env) :: starEach es X.env := by rfl) (hpl : (backTo pos (starEach es X.env)).any (·.1) = false := by rfl) : PE X (.Call (.Name x p) (e :: es) [] pos) (tCB r t) := by
  intro pins s σ H Q I h
  refine wpAny_Call_Name_kw (ld_blt I hg hm hv ?_ hn hdb)
  exact PyProof.Rows.callWith_builtin1 (thn (ha pos pins s σ H _ I h) fun us s1 ⟨vs, H1, I1, r1, q1⟩ => hc pins s1 σ H1 vs us Q I1 r1 q1) he hpl
end
end L2

namespace HT
open PySem PyProof.Rows

theorem eqAt_int (A : Around) (s : Shared) (a : Int) (t : Tok) (c : Int) (u : Tok) : ∃ e, SeqAt.EqAt A s (.int a t) (.int c u) e ∧ (e = true ↔ a = c) :=
  ⟨(a == c), SeqAt.EqAt.int_int a t c u, by simp⟩
section
open PySem.SeqAt
open PySem.AutoSeq1 (wpAny_loadPart')
open PySem.MeetsSeq PySem.MeetsSeq2 PySem.MeetsSeq3

end

section
variable {prog : Program} {w : World} {A : Around} {E : Value → Shared → Prop} {s : Shared}

/-! ### t[a:b], not the whole -/
/-- a slice's bound as a place among n (d where it is left out) -/
def sIx (n d : Nat) : Option Int → Nat
  | none => d
  | some v => if v < 0 then (v + (n : Int)).toNat else min v.toNat n
theorem sIx_nat (n d k : Nat) : sIx n d (some (k : Int)) = min k n := by
  show (if (k : Int) < 0 then ((k : Int) + (n : Int)).toNat else min (k : Int).toNat n) = min k n
  rw [if_neg (by omega), Int.toNat_natCast]
end
end HT

namespace L2
open PySem PySem.Spec PyProof.Rows

/-! ### the parts of a slice -/
abbrev TO := St → Hp → (Option Int → Hp → Prop) → Prop
/-- a slice's part (left out, or an int) -/
def PO (X : Cx) (e : Option Expr) (t : TO) : Prop :=
  ∀ (pins : List (Addr × Obj)) (s : Shared) (σ : St) (H : Hp) (Q : Option Int → Hp → Prop), Inv X pins σ H s → t σ H Q →
    wpAny (model X.prog X.w) X.A (evalPart e X.env) (fun u s' => ∃ o H', Inv X pins σ H' s' ∧ IsPart u o ∧ Q o H') X.xe s
def tPart (t : TE) : TO := fun σ H Q => t σ H fun x H1 => ∃ i, x = .int i ∧ Q (some i) H1

theorem intsAre_of {ns : List Int} : ∀ {us : List Value}, Vals (ns.map V.int) us → IntsAre us ns := by
  induction ns with
  | nil => intro us r; rw [List.map_nil] at r; cases r; exact .nil
  | cons n ns ih =>
    intro us r
    rw [List.map_cons] at r
    cases r with
    | cons r1 r2 =>
      obtain ⟨t, e⟩ := r1
      subst e
      exact .cons n t (ih r2)

section
variable {X : Cx} {e : Expr} {te : TE} {lo hi : Option Expr} {tl th : TO} {pos p2 : Pos}

theorem po_some (h : PE X e te) : PO X (some e) (tPart te) := by
  intro pins s σ H Q I hw
  rw [evalPart_some]
  refine thn (h pins s σ H _ I hw) fun u s1 ⟨x, H1, I1, r1, q1⟩ => ?_
  obtain ⟨i, rfl, q⟩ := q1
  obtain ⟨t, rfl⟩ := r1
  exact ⟨some i, H1, I1, .int i t, q⟩

/-- what a slice of a value is, by values: the slice object stands at sl -/
def SlR (X : Cx) (r : V → Option Int → Option Int → Hp → VK → Prop) : Prop :=
  ∀ (pins : List (Addr × Obj)) (s : Shared) (σ : St) (H : Hp) (x : V) (v vl vu : Value) (lo hi : Option Int) (sl : Addr) (Q : VK), Inv X pins σ H s → RelV x v → s.heap.IsSliceOf sl vl vu .none → IsPart vl lo → IsPart vu hi → r x lo hi H Q →
    ∃ T id, typeLookup (.type T) "__getitem__" = pure (some (.builtin id)) ∧ s.TypeIs v T ∧ wpAny (model X.prog X.w) X.A (getItem v (.ref sl)) (EP X pins σ Q) X.xe s
def tSl (r : V → Option Int → Option Int → Hp → VK → Prop) (te : TE) (tl th : TO) : TE := fun σ H Q => te σ H fun x H1 => tl σ H1 fun l H2 => th σ H2 fun u H3 => r x l u H3 Q
/-- a[lo:hi], any a -/
theorem pe_slice {r : V → Option Int → Option Int → Hp → VK → Prop} (hr : SlR X r) (he : PE X e te) (hl : PO X lo tl) (hu : PO X hi th) : PE X (.Subscript e (.Slice lo hi none p2) pos) (tSl r te tl th) := by
  intro pins s σ H Q I h
  refine Subscript_ (thn (he pins s σ H _ I h) fun v s1 ⟨x, H1, I1, r1, q1⟩ => ?_)
  refine wpAny_Slice (thn (hl pins s1 σ H1 _ I1 q1) fun vl s2 ⟨l, H2, I2, pl, q2⟩ => thn (hu pins s2 σ H2 _ I2 q2) fun vu s3 ⟨u, H3, I3, pu, q3⟩ => ?_)
  rw [evalPart_none]
  refine wpAny_pure ?_
  have I4 : Inv X pins σ H3 { s3 with heap := s3.heap.push { cls := .type "slice", data := .fields #[vl, vu, .none] } } := I3.kept (t' := s3.toks) fun b ob q => Heap.get?_push_of_some _ q
  obtain ⟨T, id, hT, ht, hg⟩ := hr pins { s3 with heap := s3.heap.push { cls := .type "slice", data := .fields #[vl, vu, .none] } } σ H3 x v vl vu l u s3.heap.objs.size Q I4 r1 (Heap.IsSliceOf.new ..) pl pu q3
  show wpAny (model X.prog X.w) X.A (subscriptTail e (.Slice lo hi none p2) v (.ref s3.heap.objs.size)) (EP X pins σ Q) X.xe { s3 with heap := s3.heap.push { cls := .type "slice", data := .fields #[vl, vu, .none] } }
  exact tail_any (ops := [.ref s3.heap.objs.size, v]) ht hT hg (by with_unfolding_all rfl)

/-- the items of xs[lo:hi] -/
def cutV (xs : List V) (lo hi : Option Int) : List V := (xs.drop (HT.sIx xs.length 0 lo)).take (HT.sIx xs.length xs.length hi - HT.sIx xs.length 0 lo)
theorem cutV_length (xs : List V) (lo hi : Option Int) : (cutV xs lo hi).length ≤ xs.length := by
  unfold cutV
  rw [List.length_take, List.length_drop]
  omega
end
end L2

namespace L2
open PySem PySem.Spec PyProof.Rows

/-! ### places -/
/-- the place that an index of any sign means -/
def ixN (n : Nat) (i : Int) : Option Nat := if 0 ≤ i then (if i < n then some i.toNat else none) else if -(n : Int) ≤ i then some (i + n).toNat else none
def atI {α : Type} (xs : List α) (i : Int) : Option α := (ixN xs.length i).bind fun j => xs[j]?
theorem ixN_seq {n : Nat} {i : Int} {j : Nat} (h : ixN n i = some j) : seqIndex? i n = some j ∧ j < n ∧ -(n : Int) ≤ i ∧ i < n := by
  unfold ixN at h
  by_cases h0 : 0 ≤ i
  · rw [if_pos h0] at h
    by_cases h1 : i < n
    · rw [if_pos h1] at h
      have e : i.toNat = j := Option.some.inj h
      exact ⟨by rw [seqIndex_of h0 h1, e], by omega, by omega, h1⟩
    · rw [if_neg h1] at h; cases h
  · rw [if_neg h0] at h
    by_cases h1 : -(n : Int) ≤ i
    · rw [if_pos h1] at h
      have e : (i + n).toNat = j := Option.some.inj h
      exact ⟨by rw [seqIndex_neg (by omega) h1, e], by omega, h1, by omega⟩
    · rw [if_neg h1] at h; cases h
theorem atI_get {α : Type} {xs : List α} {i : Int} {v : α} (h : atI xs i = some v) : ∃ j, seqIndex? i xs.length = some j ∧ xs[j]? = some v ∧ j < xs.length ∧ -(xs.length : Int) ≤ i ∧ i < xs.length := by
  unfold atI at h
  cases e : ixN xs.length i with
  | none => rw [e] at h; cases h
  | some j =>
    rw [e] at h
    obtain ⟨h1, h2, h3, h4⟩ := ixN_seq e
    exact ⟨j, h1, h, h2, h3, h4⟩
theorem atI_nat {α : Type} {xs : List α} {j : Nat} {v : α} (h : xs[j]? = some v) : atI xs (j : Int) = some v := by
  have hj : j < xs.length := (List.getElem?_eq_some_iff.mp h).1
  have e : ixN xs.length (j : Int) = some j := by
    unfold ixN
    rw [if_pos (by omega), if_pos (by omega)]; simp
  unfold atI; rw [e]; exact h
theorem atI_last {α : Type} (xs : List α) (v : α) : atI (xs ++ [v]) (-1) = some v := by
  have hl : (xs ++ [v]).length = xs.length + 1 := by simp
  have e : ixN (xs ++ [v]).length (-1) = some xs.length := by
    unfold ixN
    rw [hl, if_neg (by decide), if_pos (by omega)]
    congr 1
    omega
  unfold atI
  rw [e]
  show (xs ++ [v])[xs.length]? = some v
  simp

/-! ### what may be subscripted -/
/-- what stands as an index of a plain subscript -/
def PlainIx (b : Expr) : Prop := ∀ o i, subscripted b false o i = operate [o, i] (getItem o i)
/-- a subscript by values -/
def IxR (X : Cx) (r : R2) : Prop :=
  ∀ (value slice : Expr) (pins : List (Addr × Obj)) (s : Shared) (σ : St) (H : Hp) (x y : V) (v u : Value) (Q : VK), Inv X pins σ H s → RelV x v → RelV y u → r x y H Q →
    subscripted slice false v u = operate [v, u] (getItem v u) → wpAny (model X.prog X.w) X.A (subscriptTail value slice v u) (EP X pins σ Q) X.xe s
/-- a call of a builtin's method by values: the receiver, the arguments -/
def MtR (X : Cx) (id : String) (r : V → List V → Hp → VK → Prop) : Prop :=
  ∀ (pins : List (Addr × Obj)) (s : Shared) (σ : St) (H : Hp) (x : V) (xs : List V) (v : Value) (us : List Value) (Q : VK), Inv X pins σ H s → RelV x v → Vals xs us → r x xs H Q →
    wpAny (model X.prog X.w) X.A (call (.builtin id) (v :: us)) (EP X pins σ Q) X.xe s
section
variable {X : Cx} {a b : Expr} {ta tb : TE} {pos : Pos}
/-- a[b] -/
theorem pe_ix {r : R2} (hr : IxR X r) (ha : PE X a ta) (hb : PE X b tb) (hs : PlainIx b) : PE X (.Subscript a b pos) (tOp r ta tb) := by
  intro pins s σ H Q I h
  exact Subscript_ (binT ha hb I h fun v u s2 x y H2 I2 rx ry q => hr a b pins s2 σ H2 x y v u Q I2 rx ry q (hs _ _))

def rIxL (K : PySem.W.Frag) : R2 := fun x y H Q => ∃ p xs i v, x = .ref p ∧ y = .int i ∧ SqL K H p xs ∧ atI xs i = some v ∧ Q v H
theorem ix_list : IxR X (rIxL X.K) := by
  intro value slice pins s σ H x y v u Q I rx ry h hs
  obtain ⟨p, xs, i, z, rfl, rfl, hq, he, q⟩ := h
  cases rx
  obtain ⟨t, rfl⟩ := ry
  obtain ⟨its, r, pl, hz⟩ := I.list hq
  obtain ⟨j, h1, h2, h3, h4, h5⟩ := atI_get he
  obtain ⟨w, ew, rw'⟩ := r.get h2
  have hl := r.length
  have hn := line63
  have fin : EP X pins σ Q w s := ⟨z, H, I, rw', q⟩
  by_cases h0 : 0 ≤ i
  · have hj : i.toNat = j := by
      rw [seqIndex_of h0 h5] at h1
      exact Option.some.inj h1
    exact item_listR pl.isList h0 (by omega) (by rw [hj]; simpa using ew) fin hs
  · have hj : (i + (its.toArray.size : Int)).toNat = j := by
      rw [seqIndex_neg (by omega) h4] at h1
      rw [List.size_toArray, ← hl]
      exact Option.some.inj h1
    exact subscriptTail_builtinR (x := w) pl.isList.typeIs slot_list_getitem.lookup
      (wpAny_getItem_list_neg (Q := fun r s' => r = w ∧ EP X pins σ Q r s') pl.isList (by omega) (by rw [List.size_toArray] <;> omega) (by omega) (by rw [hj]; simpa using ew) ⟨rfl, fin⟩) hs
/-! ### slices -/
theorem slice_bounds (lo hi : Option Int) (n : Nat) : (sliceBounds lo hi none n).1 = ((HT.sIx n 0 lo : Nat) : Int) ∧ (sliceBounds lo hi none n).2.1 = ((HT.sIx n n hi : Nat) : Int) ∧ (sliceBounds lo hi none n).2.2 = 1 := by
  refine ⟨?_, ?_, rfl⟩
  · cases lo with
    | none => simp [sliceBounds, HT.sIx]
    | some i =>
      simp only [sliceBounds, HT.sIx, Option.getD_none, show (1 : Int) > 0 by decide, if_true]
      by_cases h : i < 0
      · simp only [h, if_true] <;> omega
      · simp only [h, if_false] <;> omega
  · cases hi with
    | none => simp [sliceBounds, HT.sIx]
    | some i =>
      simp only [sliceBounds, HT.sIx, Option.getD_none, show (1 : Int) > 0 by decide, if_true]
      by_cases h : i < 0
      · simp only [h, if_true] <;> omega
      · simp only [h, if_false] <;> omega
theorem slicePick_cut (its : List Value) (lo hi : Option Int) : slicePick its.toArray lo hi none = ((its.drop (HT.sIx its.length 0 lo)).take (HT.sIx its.length its.length hi - HT.sIx its.length 0 lo)).toArray := by
  obtain ⟨h1, h2, h3⟩ := slice_bounds lo hi its.toArray.size
  unfold slicePick
  rw [h1, h2, h3]
  simp only [sliceRange_one, pick_run, List.size_toArray] <;> rfl
/-- xs[lo:hi] of a list: a new list -/
def rSlL (K : PySem.W.Frag) : V → Option Int → Option Int → Hp → VK → Prop := fun x lo hi H Q => ∃ a xs, x = .ref a ∧ SqL K H a xs ∧ ∀ p, H p = none → Q (.ref p) (upd H p (.lst (cutV xs lo hi)))
theorem sl_list : SlR X (rSlL X.K) := by
  intro pins s σ H x v vl vu lo hi sl Q I rx hs pl pu h
  obtain ⟨a, xs, rfl, hx, q⟩ := h
  cases rx
  obtain ⟨its, r, ht, hz⟩ := I.list hx
  have hlen := r.length
  refine ⟨"list", _, slot_list_getitem.lookup, ht.isList.typeIs, ?_⟩
  refine wpAny_getItem_list_slice ht.isList hs pl pu .none (by simp) ?_ (by rw [List.size_toArray] <;> omega)
  rw [slicePick_cut, ← hlen]
  refine ⟨.ref s.heap.objs.size, _, I.laid (t' := s.toks) (o := .lst (cutV xs lo hi)) (fun b ob q => Heap.get?_push_of_some _ q) (Nat.le_refl _) ?_, rfl, q _ (I.hok.fresh (Nat.le_refl _))⟩
  exact ⟨Nat.le_trans (cutV_length xs lo hi) hz, _, 0, (r.drop (HT.sIx xs.length 0 lo)).take (HT.sIx xs.length xs.length hi - HT.sIx xs.length 0 lo), Heap.get?_push_size _ rfl⟩

/-! ### in, not in: flat items -/
def flatV : V → Bool
  | .non => true
  | .bl _ => true
  | .int _ => true
  | .str _ => true
  | _ => false
/-- == of flat values -/
def eqV : V → V → Bool
  | .non, .non => true
  | .bl a, .bl b => a == b
  | .bl a, .int b => (if a then 1 else 0) == b
  | .int a, .bl b => a == (if b then 1 else 0)
  | .int a, .int b => a == b
  | .str a, .str b => a == b
  | _, _ => false
theorem eqAt_V {A : Around} {s : Shared} {y x : V} {u v : Value} (ry : RelV y u) (rx : RelV x v) (fy : flatV y = true) (fx : flatV x = true) : SeqAt.EqAt A s u v (eqV y x) := by
  cases y with
  | non =>
    cases ry
    cases x with
    | non => cases rx; exact SeqAt.EqAt.same _
    | bl b => cases rx; exact SeqAt.EqAt.none_bool b
    | int b => obtain ⟨t, rfl⟩ := rx; exact SeqAt.EqAt.none_int b t
    | str b => obtain ⟨t, rfl⟩ := rx; exact SeqAt.EqAt.none_str b t
    | _ => exact absurd (show false = true from fx) Bool.false_ne_true
  | bl a =>
    cases ry
    cases x with
    | non => cases rx; exact SeqAt.EqAt.bool_none a
    | bl b => cases rx; exact SeqAt.EqAt.bool_bool a b
    | int b => obtain ⟨t, rfl⟩ := rx; exact SeqAt.EqAt.bool_int a b t
    | str b => obtain ⟨t, rfl⟩ := rx; exact SeqAt.EqAt.bool_str a b t
    | _ => exact absurd (show false = true from fx) Bool.false_ne_true
  | int a =>
    obtain ⟨t', rfl⟩ := ry
    cases x with
    | non => cases rx; exact SeqAt.EqAt.int_none a t'
    | bl b => cases rx; exact SeqAt.EqAt.int_bool a t' b
    | int b => obtain ⟨t, rfl⟩ := rx; exact SeqAt.EqAt.int_int a t' b t
    | str b => obtain ⟨t, rfl⟩ := rx; exact SeqAt.EqAt.int_str a t' b t
    | _ => exact absurd (show false = true from fx) Bool.false_ne_true
  | str a =>
    obtain ⟨t', rfl⟩ := ry
    cases x with
    | non => cases rx; exact SeqAt.EqAt.str_none a t'
    | bl b => cases rx; exact SeqAt.EqAt.str_bool a t' b
    | int b => obtain ⟨t, rfl⟩ := rx; exact SeqAt.EqAt.str_int a t' b t
    | str b => obtain ⟨t, rfl⟩ := rx; exact SeqAt.EqAt.str_str a t' b t
    | _ => exact absurd (show false = true from fx) Bool.false_ne_true
  | _ => exact absurd (show false = true from fy) Bool.false_ne_true
/-- the items' answers, read off the values (a value's own answer does not lean on its token) -/
def eqU (x : V) (u : Value) : Bool := match u with
  | .none => eqV .non x
  | .bool b => eqV (.bl b) x
  | .int i _ => eqV (.int i) x
  | .str z _ => eqV (.str z) x
  | _ => false
theorem eqU_of {x y : V} {u : Value} (r : RelV y u) (f : flatV y = true) : eqU x u = eqV y x := by
  cases y with
  | non => cases r; rfl
  | bl b => cases r; rfl
  | int i => obtain ⟨t, rfl⟩ := r; rfl
  | str z => obtain ⟨t, rfl⟩ := r; rfl
  | _ => exact absurd (show false = true from f) Bool.false_ne_true
theorem any_eqU {x : V} : ∀ {xs : List V} {us : List Value}, Vals xs us → xs.all flatV = true → us.any (eqU x) = xs.any fun y => eqV y x
  | _, _, .nil, _ => rfl
  | y :: xs, u :: us, .cons r t, f => by
    rw [List.all_cons, Bool.and_eq_true] at f
    rw [List.any_cons, List.any_cons, eqU_of r f.1, any_eqU t f.2]
theorem mem_eqAt {A : Around} {s : Shared} {x : V} {v : Value} (rx : RelV x v) (fx : flatV x = true) : ∀ {xs : List V} {us : List Value}, Vals xs us → xs.all flatV = true → ∀ u ∈ us, SeqAt.EqAt A s u v (eqU x u)
  | _, _, .nil, _ => fun u hu => by cases hu
  | y :: xs, u :: us, .cons r t, f => fun u' hu => by
    rw [List.all_cons, Bool.and_eq_true] at f
    rcases List.mem_cons.mp hu with rfl | hu
    · rw [eqU_of r f.1]; exact eqAt_V r rx f.1 fx
    · exact mem_eqAt rx fx t f.2 u' hu
def inV (x : V) (xs : List V) : Bool := xs.any fun y => eqV y x
/-- x in a list or tuple of flat items -/
def rIn (K : PySem.W.Frag) (neg : Bool) : R2 := fun x y H Q => ∃ p xs, y = .ref p ∧ (SqL K H p xs ∨ SqT K H p xs) ∧ flatV x = true ∧ xs.all flatV = true ∧ Q (.bl (if neg then !inV x xs else inV x xs)) H
theorem op_in_seq : OpR X (compareOp .In) (rIn X.K false) := by
  intro pins s σ H x y v u Q I rx ry h
  obtain ⟨p, xs, rfl, hq, fx, fs, q⟩ := h
  cases ry
  rcases hq with hq | hq
  · obtain ⟨its, r, pl, hz⟩ := I.list hq
    refine SeqAt.in_listAt (eqU x) pl.isList (fun w hw => mem_eqAt rx fx r fs w (by simpa using hw)) ⟨.bl _, H, I, rfl, ?_⟩
    rw [show its.toArray.any (eqU x) = its.any (eqU x) by simp, any_eqU r fs]
    exact q
  · obtain ⟨its, r, pl, hz⟩ := I.tuple hq
    refine SeqAt.in_tupleAt (eqU x) pl (fun w hw => mem_eqAt rx fx r fs w (by simpa using hw)) ⟨.bl _, H, I, rfl, ?_⟩
    rw [show its.toArray.any (eqU x) = its.any (eqU x) by simp, any_eqU r fs]
    exact q
theorem op_notIn_seq : OpR X (compareOp .NotIn) (rIn X.K true) := by
  intro pins s σ H x y v u Q I rx ry h
  obtain ⟨p, xs, rfl, hq, fx, fs, q⟩ := h
  cases ry
  rcases hq with hq | hq
  · obtain ⟨its, r, pl, hz⟩ := I.list hq
    refine SeqAt.notIn_listAt (eqU x) pl.isList (fun w hw => mem_eqAt rx fx r fs w (by simpa using hw)) ⟨.bl _, H, I, rfl, ?_⟩
    rw [show its.toArray.any (eqU x) = its.any (eqU x) by simp, any_eqU r fs]
    exact q
  · obtain ⟨its, r, pl, hz⟩ := I.tuple hq
    refine SeqAt.notIn_tupleAt (eqU x) pl (fun w hw => mem_eqAt rx fx r fs w (by simpa using hw)) ⟨.bl _, H, I, rfl, ?_⟩
    rw [show its.toArray.any (eqU x) = its.any (eqU x) by simp, any_eqU r fs]
    exact q
/-! ### len, list(x), tuple(x) of any list or tuple that is read -/
theorem call_len_seq : CallR X (.builtin "len") (fun xs H Q => ∃ p ys, xs = [.ref p] ∧ (SqL X.K H p ys ∨ SqT X.K H p ys) ∧ Q (.int ys.length) H) := by
  intro pins s σ H xs us Q I r h
  obtain ⟨p, ys, rfl, hq, q⟩ := h
  obtain ⟨u, rfl, rx⟩ := vals1 r
  cases rx
  have hn := line63
  rcases hq with hq | hq
  · obtain ⟨its, r', pl, hz⟩ := I.list hq
    have hlen := r'.length
    exact Calls.call_len_list pl.isList (by simp only [List.size_toArray] <;> omega) ⟨.int ys.length, H, I.tok _, ⟨s.toks + 1, by rw [List.size_toArray, hlen]⟩, q⟩
  · obtain ⟨its, r', pl, hz⟩ := I.tuple hq
    have hlen := r'.length
    exact len_tuple pl (by simp only [List.size_toArray] <;> omega) ⟨.int ys.length, H, I.tok _, ⟨s.toks + 1, by rw [List.size_toArray, hlen]⟩, q⟩
/-! ### the call of a builtin's method: o.m(..) -/
/-- the value is of that builtin type -/
def tyV (K : PySem.W.Frag) (T : String) (x : V) (H : Hp) : Prop := match x with
  | .str _ => T = "str"
  | .int _ => T = "int"
  | .ref p => (T = "list" ∧ ∃ xs, SqL K H p xs) ∨ (T = "tuple" ∧ ∃ o, K.lookup p = some o ∧ o.cls = .type "tuple" ∧ o.dict = none) ∨
      (T = "dict" ∧ ((∃ kvs, H p = some (.dK kvs)) ∨ ∃ kvs, H p = some (.dT kvs))) ∨ (T = "set" ∧ ∃ S n, H p = some (.set S n))
  | _ => False
theorem tyV_is {pins : List (Addr × Obj)} {σ : St} {H : Hp} {s : Shared} {T : String} {x : V} {v : Value} (I : Inv X pins σ H s) (r : RelV x v) (ty : tyV X.K T x H) :
    s.TypeIs v T ∧ ∀ a, v = .ref a → ∃ ob, s.heap.get? a = some ob ∧ ob.dict = none := by
  cases x with
  | str z =>
    obtain ⟨t, rfl⟩ := r
    cases (show T = "str" from ty)
    exact ⟨typeIs_str s z t, fun _ e => nomatch e⟩
  | int i =>
    obtain ⟨t, rfl⟩ := r
    cases (show T = "int" from ty)
    exact ⟨typeIs_int s i t, fun _ e => nomatch e⟩
  | ref p =>
    cases r
    rcases ty with ⟨rfl, xs, hq⟩ | ⟨rfl, o, hk, hc, hd⟩ | ⟨rfl, hk⟩ | ⟨rfl, S, n, hk⟩
    · obtain ⟨its, _, pl, _⟩ := I.list hq
      refine ⟨pl.isList.typeIs, fun a e => ?_⟩
      cases e
      obtain ⟨o, n, e, c, hd, _⟩ := pl
      exact ⟨o, e, hd⟩
    · refine ⟨⟨o, I.kIn p o hk, hc⟩, fun a e => ?_⟩
      cases e
      exact ⟨o, I.kIn _ o hk, hd⟩
    · have z : ∃ o, s.heap.get? p = some o ∧ o.ExactDict := by
        rcases hk with ⟨kvs, hk⟩ | ⟨kvs, hk⟩
        · obtain ⟨_, _, _, _, o, _, _, e, ex, _⟩ := I.hok p _ hk
          exact ⟨o, e, ex⟩
        · obtain ⟨_, _, _, _, o, _, _, e, ex, _⟩ := I.hok p _ hk
          exact ⟨o, e, ex⟩
      obtain ⟨o, e, ex⟩ := z
      refine ⟨⟨o, e, ex.1⟩, fun a e2 => ?_⟩
      cases e2
      exact ⟨o, e, ex.2.1⟩
    · obtain ⟨o, _, _, _, e, ex, _⟩ := I.hok p _ hk
      refine ⟨⟨o, e, ex.1⟩, fun a e2 => ?_⟩
      cases e2
      exact ⟨o, e, ex.2.1⟩
  | _ => exact False.elim ty
def tBM0 (K : PySem.W.Frag) (T : String) (r : V → List V → Hp → VK → Prop) (to : TE) : TE := fun σ H Q => to σ H fun x H1 => tyV K T x H1 ∧ r x [] H1 Q
def tBM (K : PySem.W.Frag) (T : String) (r : V → List V → Hp → VK → Prop) (to : TE) (t : TA) : TE := fun σ H Q => to σ H fun x H1 => tyV K T x H1 ∧ t σ H1 fun xs H2 => r x xs H2 Q
variable {o e : Expr} {es : List Expr} {to : TE} {t : TA} {name : Str} {apos cpos : Pos} {T id : String} {r : V → List V → Hp → VK → Prop}
theorem pe_bm0 (pa : PlainAttrs T) (slot : Slot T name id) (hty : typeOf (.builtin id) = pure (.type "method_descriptor")) (hm : MtR X id r) (ho : PE X o to)
    (hbase : attributeBase o name X.env (eval o X.env) = eval o X.env := by rfl) (hline : (apos.endLine == cpos.line) = true := by rfl) : PE X (.Call (.Attribute o name apos) [] [] cpos) (tBM0 X.K T r to) := by
  intro pins s σ H Q I h
  refine wpAny_Call_method0_late hbase hline (thn (ho pins s σ H _ I h) fun v s1 ⟨x, H1, I1, r1, ty, q1⟩ => ?_)
  obtain ⟨h1, h2⟩ := tyV_is I1 r1 ty
  exact ⟨T, id, pa, slot, hty, h1, h2, Calls.callWith_builtin rfl (PySem.evalArgs_none (hm pins s1 σ H1 x [] v [] Q I1 r1 .nil q1))⟩
theorem pe_bm (pa : PlainAttrs T) (slot : Slot T name id) (hty : typeOf (.builtin id) = pure (.type "method_descriptor")) (hm : MtR X id r) (ho : PE X o to) (ha : PA X (e :: es) t)
    (hbase : attributeBase o name X.env (eval o X.env) = eval o X.env := by rfl)
    (hfew : ((backTo cpos (starEach (e :: es) X.env)).all (fun x => !x.1) && (backToKw cpos (keywordEach [] X.env)).all (fun x => x.1.isSome)
      && decide ((e :: es).length + ([] : List Keyword).length + (if ([] : List Keyword).isEmpty then 0 else 1) < 30)) = true := by rfl)
    (hline : (apos.endLine == cpos.line) = true := by rfl) (hs : starEach (e :: es) X.env = (false, eval e X.env) :: starEach es X.env := by rfl) (hplain : (backTo cpos (starEach es X.env)).any (·.1) = false := by rfl) :
    PE X (.Call (.Attribute o name apos) (e :: es) [] cpos) (tBM X.K T r to t) := by
  intro pins s σ H Q I h
  refine wpAny_Call_method_late hbase hfew hline rfl (thn (ho pins s σ H _ I h) fun v s1 ⟨x, H1, I1, r1, ty, q1⟩ => ?_)
  obtain ⟨h1, h2⟩ := tyV_is I1 r1 ty
  refine ⟨T, id, pa, slot, hty, h1, h2, ?_⟩
  have hA := ha cpos pins s1 σ H1 _ I1 q1
  rw [hs] at hA ⊢
  refine Calls.callWith_builtin (by show (false || (backTo cpos (starEach es X.env)).any (·.1)) = false; rw [hplain] <;> rfl) (Calls.evalArgs_plain ?_)
  exact thn hA fun us s2 ⟨vs, H2, I2, r2, q2⟩ => hm pins s2 σ H2 x vs v us Q I2 r1 r2 q2
/- xs.append(e), list.index on a module's tuple .. are MtR facts of 06m -/
end
end L2

namespace L2
open PySem PySem.Spec PyProof.Rows

def MtM (X : Cx) (id : String) (r : V → List V → Hp → VK → Prop) : Prop :=
  ∀ (pins : List (Addr × Obj)) (s : Shared) (σ : St) (H : Hp) (x : V) (xs : List V) (v : Value) (us : List Value) (Q : VK), Inv X pins σ H s → RelV x v → Vals xs us → r x xs H Q →
    wpAny (model X.prog X.w) X.A (call (.builtin id) (v :: us)) (EP X pins σ Q) X.xe s

/-! ### lists of values -/
theorem Vals.one : ∀ {x : V} {us : List Value}, Vals [x] us → ∃ u, us = [u] ∧ RelV x u
  | _, _, .cons r .nil => ⟨_, rfl, r⟩
theorem Vals.zero : ∀ {us : List Value}, Vals [] us → us = []
  | _, .nil => rfl
theorem Vals.dropLast {xs : List V} {us : List Value} (h : Vals xs us) : Vals xs.dropLast us.dropLast := by
  induction h with
  | nil => exact .nil
  | cons r t ih =>
    cases t with
    | nil => exact .nil
    | cons q t' => exact .cons r ih
theorem erase_last {α : Type} (l : List α) : l.eraseIdx (l.length - 1) = l.dropLast := by
  induction l with
  | nil => rfl
  | cons a r ih =>
    cases r with
    | nil => rfl
    | cons b r =>
      have e : (a :: b :: r).length - 1 = ((b :: r).length - 1) + 1 := by
        have h1 : (a :: b :: r).length = r.length + 2 := rfl
        have h2 : (b :: r).length = r.length + 1 := rfl
        omega
      rw [e, List.eraseIdx_cons_succ, ih]
      all_goals rfl
section
variable {X : Cx} {pins : List (Addr × Obj)} {σ : St} {H : Hp} {s : Shared} {l b : Addr} {xs ys zs : List V}

/-! ### the two steps: a tracked list is rewritten, a new list is laid -/
theorem Inv.lset {its its' : List Value} {n : Nat} {f : Array Value → Array Value} {t' : Nat} (I : Inv X pins σ H s) (hH : H l = some (.lst xs))
    (e : s.heap.get? l = some { cls := .type "list", data := .seq its.toArray n }) (hf : f its.toArray = its'.toArray) (hv : Vals ys its') (hz : ys.length ≤ sizeLine) :
    Inv X pins σ (upd H l (.lst ys)) { s with heap := s.heap.update l (Obj.mapSeq f), toks := t' } := by
  have q := PySem.IsL.update e f
  rw [hf] at q
  refine I.write (x := l) (e := l) (by rw [hH]; exact trivial) (.inl rfl) (fun b' u hb hu => (Heap.get?_update_other s.heap (Obj.mapSeq f) (Ne.symm hb)).trans hu) ⟨_, q⟩ ?_
  exact ⟨hz, its', _, hv, q⟩
theorem Inv.lnew {its : List Value} {t' : Nat} (I : Inv X pins σ H s) (hv : Vals ys its) (hz : ys.length ≤ sizeLine) :
    Inv X pins σ (upd H s.heap.objs.size (.lst ys)) { s with heap := s.heap.push { cls := .type "list", data := .seq its.toArray }, toks := t' } :=
  I.laid (fun _ _ q => Heap.get?_push_of_some _ q) (Nat.le_refl _) ⟨hz, its, 0, hv, Heap.get?_push_size _ rfl⟩
theorem Inv.fresh (I : Inv X pins σ H s) : H s.heap.objs.size = none := I.hok.fresh (Nat.le_refl _)
theorem Inv.lstM (I : Inv X pins σ H s) (hH : H l = some (.lst xs)) : xs.length ≤ sizeLine ∧ ∃ (its : List Value) (n : Nat), Vals xs its ∧ xs.length = its.length ∧ s.heap.get? l = some { cls := .type "list", data := .seq its.toArray n } := by
  obtain ⟨z, its, n, r, e⟩ := I.hok l _ hH
  exact ⟨z, its, n, r, r.length, e⟩

theorem notLongL {n : Nat} (h : n ≤ sizeLine) : Builtin.List.listTooLong n = false := by
  unfold Builtin.List.listTooLong
  exact decide_eq_false (by omega)
end

section
variable {X : Cx}

/-! ### methods -/
def rAppend : V → List V → Hp → VK → Prop := fun x vs H Q => ∃ l xs y, x = .ref l ∧ vs = [y] ∧ H l = some (.lst xs) ∧ xs.length < sizeLine ∧ Q .non (upd H l (.lst (xs ++ [y])))
theorem mt_append : MtM X "list.append" rAppend := by
  intro pins s σ H x vs v us Q I rx rv h
  obtain ⟨l, xs, y, rfl, rfl, hH, hz, q⟩ := h
  cases rx
  obtain ⟨u, rfl, ru⟩ := rv.one
  obtain ⟨z, its, n, r, hl, e⟩ := I.lstM hH
  refine call_meets F.slot_list_append ⟨_, e, rfl⟩ F.entry_list_append (F.args_list_append_2 _ _) (PySem.list_append l its.toArray n u (by rw [List.size_toArray]; omega)) ⟨e, ?_⟩
  refine ⟨.non, _, I.lset (its' := its ++ [u]) hH e (by simp) (r.append (.cons ru .nil)) ?_, rfl, q⟩
  rw [List.length_append, List.length_singleton]
  omega

def rExtend : V → List V → Hp → VK → Prop := fun x vs H Q => ∃ l b xs zs, x = .ref l ∧ vs = [.ref b] ∧ H l = some (.lst xs) ∧ H b = some (.lst zs) ∧ xs.length + zs.length ≤ sizeLine ∧ Q .non (upd H l (.lst (xs ++ zs)))
theorem mt_extend : MtM X "list.extend" rExtend := by
  intro pins s σ H x vs v us Q I rx rv h
  obtain ⟨l, b, xs, zs, rfl, rfl, hH, hB, hz, q⟩ := h
  cases rx
  obtain ⟨u, rfl, ru⟩ := rv.one
  cases ru
  obtain ⟨z, its, n, r, hl, e⟩ := I.lstM hH
  obtain ⟨z2, its2, n2, r2, hl2, e2⟩ := I.lstM hB
  have hsz : its.toArray.size + its2.toArray.size ≤ sizeLine := by rw [List.size_toArray, List.size_toArray]; omega
  have hlong : ¬ (!its.toArray.isEmpty && Builtin.List.listTooLong (its.toArray.size + its2.toArray.size)) = true := by
    rw [notLongL hsz, Bool.and_false]
    exact Bool.false_ne_true
  refine call_meets F.slot_list_extend ⟨_, e, rfl⟩ F.entry_list_extend (F.args_list_extend_2 _ _)
    (AutoSeq1.list_extend_list_list_0 l its.toArray n b its2.toArray n2 hlong (by rw [List.size_toArray]; omega) (by omega)) ⟨e, e2, ?_⟩
  refine ⟨.non, _, I.lset (its' := its ++ its2) hH e (by simp) (r.append r2) ?_, rfl, q⟩
  rw [List.length_append]
  omega

def rPop : V → List V → Hp → VK → Prop := fun x vs H Q => ∃ l xs y, x = .ref l ∧ vs = [] ∧ H l = some (.lst xs) ∧ xs[xs.length - 1]? = some y ∧ Q y (upd H l (.lst xs.dropLast))
theorem mt_pop : MtM X "list.pop" rPop := by
  intro pins s σ H x vs v us Q I rx rv h
  obtain ⟨l, xs, y, rfl, rfl, hH, hy, q⟩ := h
  cases rx
  have hus := rv.zero
  subst hus
  obtain ⟨z, its, n, r, hl, e⟩ := I.lstM hH
  obtain ⟨u, hu, ru⟩ := r.get hy
  have hy' : its.toArray[its.toArray.size - 1]? = some u := by
    show its.toArray[its.length - 1]? = some u
    rw [← Array.getElem?_toList, ← hl]
    exact hu
  refine call_meets F.slot_list_pop ⟨_, e, rfl⟩ F.entry_list_pop (F.args_list_pop_1 _) (MeetsSeq.list_pop_last l its.toArray n u hy' (by rw [List.size_toArray]; omega)) ⟨e, ?_⟩
  refine ⟨y, _, I.lset (its' := its.dropLast) hH e ?_ r.dropLast ?_, ru, q⟩
  · show its.toArray.eraseIdxIfInBounds (its.toArray.size - 1) = its.dropLast.toArray
    rw [List.size_toArray, List.eraseIdxIfInBounds_toArray, erase_last]
  · rw [List.length_dropLast]
    omega

end

/-! ### xs[a:b] = ys -/
section
variable {prog : Program} {w : World} {A : Around} {E : Value → Shared → Prop} {s : Shared}
end

section
variable {X : Cx}
end
end L2

namespace Att
open PySem PySem.W PySem.Calls PyProof.Rows

/-! ### rules over ANY heap (no ledger) from facts about the written part K: the library's own take a ledger (News) for what they write -/
section
variable {prog : Program} {w : World} {A : Around} {E : Value → Shared → Prop} {s : Shared} {K : Frag}

end
end Att

namespace L2
open PySem PySem.Spec PyProof.Rows

end L2

namespace L2
open PySem PySem.Spec PyProof.Rows

end L2

/- THE LAST THEOREM (shape; LID, My.* are yours):
   My.Adr: a structure of the addresses that your layer names (classes, functions); My.Txt K t: a structure (Prop) of the equations over K;
   My.txt_mk : {K} {implicit addresses ..} (e1 : nsIn K mainGlobals "law" = some (some (.ref f))) (e2 : K.lookup f = some ⟨oc, od, .func (fnOf "law" "law" params body scope dV kV doc pm an cdv ct), sl⟩) (e3 : codeIn K cdv "law" = true) .. : ∃ t, My.Txt K t

set_option maxRecDepth 100000 in
set_option maxHeartbeats 0 in
theorem PySem.Challenge.cw_LID_holds : PySem.Challenge.rw_LID.Holds := by
  w_on; o_law; k_head; (case hw => w_witness2)
  k_fill
  refine L2.walk_of (l := PySem.Challenge.rw_LID) (n := 63) (k := 40) (x := "script") (CX := fun w => ..) (sp := fun _ => My.sp_law) rfl (by decide) rfl ⟨rfl, by decide, by decide⟩ (fun w h Y => PySem.W.kIn_of Y) ?F ?S ?C
  case F =>
    intro w mg fa h KX G hmg
    have T : ∃ t, My.Txt (L2.KOf KX) t := by
      dsimp only [L2.KOf]                          -- K must stand as «<heap const> w.params» for k_is
      refine' My.txt_mk ?e1 ?e2 ?e3 ..
      (case e1 => PySem.W.k_is)                    -- in the order: a name -> its address -> its object -> its parts
      (case e2 => PySem.W.k_is)
      ..
    obtain ⟨t, T⟩ := T
    have e0 := hmg.symm.trans (PySem.W.mg_of KX G T.law)
    cases e0                                       -- fa is the law's own address
    exact ⟨_, fun s u => .of_eq rfl, fun base kb nb => My.law_fn T kb nb⟩     -- if «.of_eq rfl» comes too early: refine' ⟨_, ?b, fun base kb nb => My.law_fn T kb nb⟩; exact fun s u => .of_eq rfl
  case S => exact fun w H a ns hl hO hS => ..
  case C => exact ..
(the tactic k_is has no namespace: write k_is) -/

/-! SHORT WORDS over the layer: a def of the text, its body, what a loop and a test want. -/
namespace L2
open PySem PySem.Spec PyProof.Rows

/-! ### the text by places -/
/-- the j-th statement of a class's body -/
def inClass (s : Stmt) (j : Nat) : Stmt := match s with
  | .ClassDef _ _ _ body _ _ _ _ _ _ _ => body.getD j (.Pass ⟨0, 0, 0, 0⟩)
  | _ => .Pass ⟨0, 0, 0, 0⟩
def defArgs (s : Stmt) : Arguments := match s with
  | .FunctionDef _ a _ _ _ _ _ _ _ _ => a
  | _ => { posonlyargs := [], args := [], vararg := none, kwonlyargs := [], kw_defaults := [], kwarg := none, defaults := [] }
def defBody (s : Stmt) : List Stmt := match s with
  | .FunctionDef _ _ b _ _ _ _ _ _ _ => b
  | _ => []
def defScope (s : Stmt) : Scope := match s with
  | .FunctionDef _ _ _ _ _ _ sc _ _ _ => sc
  | _ => { kind := .function, names := [], isGenerator := false, isCoroutine := false }

/-! ### no exception leaves a def -/
abbrev CX0 : CXT := fun _ _ _ _ _ _ => False
abbrev E0 : XK := fun _ _ _ => False
theorem pass0 {X : Cx} : Passes CX0 X E0 := fun _ _ _ _ _ _ _ h => h.elim

/-! ### a def (or method) of the text as it stands behind the top -/
structure Fun (K : PySem.W.Frag) (x qual : Str) (st : Stmt) (f : Addr) (fd : FuncData) : Prop where
  ex : ∃ (oc : Value) (od : Option Addr) (kV doc pm : Value) (an : Option Addr) (cdv ct : Value) (osl : Array (Option Value)),
    fd = PySem.W.fnOf x qual (defArgs st) (defBody st) (defScope st) .none kV doc pm an cdv ct ∧ K.lookup f = some ⟨oc, od, .func fd, osl⟩ ∧ PySem.W.codeIn K cdv qual = true
  kp : PySem.W.keepIn K (.ref f) = true
section
variable {P : Program} {w : World} {K : PySem.W.Frag} {mg : Str → Option Value} {base : Heap}
/-- THE RULE for a def: its body as a term of rules, and the reading of that term -/
theorem Fun.ok {x qual : Str} {st : Stmt} {f : Addr} {fd : FuncData} {N ps : List Str} {k : Nat} {sp : Sp} (F : Fun K x qual st f fd) (S : FnScope N ps (defScope st)) (len : ∀ vs H Q E, sp vs H Q E → vs.length = ps.length)
    (hbody : ∀ (cdv : Value) (A : Around) (outer : List Env) (s : Shared) (H : Hp) (vs : List V) (Q : VK) (E : XK), Room k (A.deeper (envOfC qual (defScope st) s.heap.objs.size f cdv)) → sp vs H Q E →
      ∃ t, PSs (cxOf CX0 P w K mg base N qual (defScope st) f cdv A outer s H E).nox (defBody st) t ∧ t { nx := fun _ H' => Q .non H', rt := Q } (start N vs) H) : FnOk P w K mg base CX0 (k + 1) f fd ps sp := by
  obtain ⟨oc, od, kV, doc, pm, an, cdv, ct, osl, rfl, lk, hcd⟩ := F.ex
  refine fn_of lk hcd S len fun A outer s H vs Q E hr hsp => ?_
  obtain ⟨t, h, q⟩ := hbody cdv A outer s H vs Q E hr hsp
  exact ⟨t, h.nox, q⟩
/-- how its arguments bind (no defaults): h is «fun _ _ _ _ _ _ us hl => match us, hl with | [_, _], _ => rfl», one _ a parameter -/
theorem Fun.binds {x qual : Str} {st : Stmt} {f : Addr} {fd : FuncData} {ps : List Str} (F : Fun K x qual st f fd)
    (h : ∀ (kV doc pm : Value) (an : Option Addr) (cdv ct : Value) (us : List Value), us.length = ps.length → bindArgs (PySem.W.fnOf x qual (defArgs st) (defBody st) (defScope st) .none kV doc pm an cdv ct) ⟨us, []⟩ = pure (ps.zip us)) : Binds K fd ps [] := by
  obtain ⟨oc, od, kV, doc, pm, an, cdv, ct, osl, rfl, lk, hcd⟩ := F.ex
  exact .all (h kV doc pm an cdv ct)
theorem fun_mk {x qual : Str} {st : Stmt} {f : Addr} {oc : Value} {od an : Option Addr} {osl : Array (Option Value)} {kV doc pm cdv ct : Value} (l : K.lookup f = some ⟨oc, od, .func (PySem.W.fnOf x qual (defArgs st) (defBody st) (defScope st) .none kV doc pm an cdv ct), osl⟩)
    (c : PySem.W.codeIn K cdv qual = true) (k : PySem.W.keepIn K (.ref f) = true) : Fun K x qual st f (PySem.W.fnOf x qual (defArgs st) (defBody st) (defScope st) .none kV doc pm an cdv ct) := ⟨⟨oc, od, kV, doc, pm, an, cdv, ct, osl, rfl, l, c⟩, k⟩
end
/-! ### expressions in short: the name that stands in the i-th slot -/
section
variable {X : Cx}
theorem pv (i : Nat) {x : Str} {pos : Pos} (hN : X.N[i]? = some x := by rfl) (hv : Vis X.env.scope x := by first | exact Or.inl rfl | exact Or.inr (Or.inl rfl) | exact Or.inr (Or.inr rfl)) (hd : (x == ("__debug__" : Str)) = false := by decide)
    (hcd : (x == ("__classdict__" : Str)) = false := by decide) : PE X (.Name x pos) (tVar i) := pe_var hN hv hd hcd
end

/-! ### tests -/
theorem iteF {A B : Prop} (h : B) : if false = true then A else B := by
  rw [if_neg Bool.false_ne_true]
  exact h
theorem iteT {A B : Prop} (h : A) : if true = true then A else B := by
  rw [if_pos rfl]
  exact h
theorem ite2 {c A B : Prop} [Decidable c] (h1 : c → A) (h2 : ¬ c → B) : if c then A else B := by
  by_cases h : c
  · rw [if_pos h]
    exact h1 h
  · rw [if_neg h]
    exact h2 h
/-! ### heaps -/
/-- all that was tracked is as it was -/
def Same (H H' : Hp) : Prop := ∀ b o, H b = some o → H' b = some o
theorem Same.trans {H H1 H2 : Hp} (a : Same H H1) (b : Same H1 H2) : Same H H2 := fun c o h => b c o (a c o h)
theorem Same.free {H H' : Hp} (e : Same H H') {l : Addr} (h : H' l = Option.none) : H l = Option.none := by
  cases q : H l with
  | none => rfl
  | some o =>
    rw [e l o q] at h
    cases h
theorem Same.seq {K : PySem.W.Frag} {H H' : Hp} {a : Addr} {xs : List V} (e : Same H H') (h : SqL K H a xs) : SqL K H' a xs := by
  rcases h with (h | ⟨o, h⟩) | h
  · exact .inl (.inl (e _ _ h))
  · exact .inl (.inr ⟨o, e _ _ h⟩)
  · exact .inr h

/-! ### lists -/
theorem at_of {xs : List V} {z : Int} {j : Nat} {v : V} (e : z = (j : Int)) (h : xs[j]? = some v) : atI xs z = some v := by
  rw [e]
  exact atI_nat h
end L2

set_option maxHeartbeats 2000000
namespace L2
open PySem PySem.Spec PyProof.Rows
open PySem.W (WData Codec OpenSpec Well WellAll ReadsW ReadsAllW)
/-! ### an answer as data -/
mutual
/-- x stands for the datum d, lists and tuples all the way -/
inductive Dw (K : PySem.W.Frag) (H : Hp) : V → WData → Prop
  | non : Dw K H .non .none
  | bl (b : Bool) : Dw K H (.bl b) (.bool b)
  | int (i : Int) : Dw K H (.int i) (.int i)
  | str (x : Str) : Dw K H (.str x) (.str x)
  | byt (b : Array UInt8) : Dw K H (.byt b) (.bytes b.toList)
  | lst {a : Addr} {xs : List V} {ds : List WData} : SqL K H a xs → DwAll K H xs ds → Dw K H (.ref a) (.list ds)
  | tup {a : Addr} {xs : List V} {ds : List WData} : SqT K H a xs → DwAll K H xs ds → Dw K H (.ref a) (.tuple ds)
inductive DwAll (K : PySem.W.Frag) (H : Hp) : List V → List WData → Prop
  | nil : DwAll K H [] []
  | cons {v : V} {vs : List V} {d : WData} {ds : List WData} : Dw K H v d → DwAll K H vs ds → DwAll K H (v :: vs) (d :: ds)
end
theorem dw_ints {K : PySem.W.Frag} {H : Hp} : ∀ ns : List Int, DwAll K H (ns.map V.int) (ns.map WData.int)
  | [] => .nil
  | n :: r => .cons (.int n) (dw_ints r)
theorem ints_dw {K : PySem.W.Frag} {H : Hp} : ∀ (ns : List Int) (xs : List V), DwAll K H xs (ns.map WData.int) → xs = ns.map V.int
  | [], xs, h => by
    cases h
    rfl
  | n :: r, xs, h => by
    cases h with
    | cons h1 h2 =>
      cases h1
      rw [ints_dw r _ h2] <;> rfl
section
variable {P : Program} {w : World} {K : PySem.W.Frag} {H : Hp} {h : Heap} {R : PySem.W.WRecords} {cl : Str → Option Addr}
theorem sqL_at {a : Addr} {xs : List V} (hok : HOk P w H h) (KX : K.In h) (q : SqL K H a xs) : ∃ (its : List Value) (o : Obj) (n : Nat), Vals xs its ∧ h.get? a = some o ∧ o.cls = .type "list" ∧ o.data = .seq its.toArray n := by
  rcases q with q | ⟨o, its, n, e, hc, _, hd, _, hv⟩
  · obtain ⟨_, its, n, hv, e⟩ := (show ObjOk P w H h a (.lst xs) from q.ok hok)
    exact ⟨its, _, n, hv, e, rfl, rfl⟩
  · exact ⟨its.toList, o, n, hv, KX _ _ e, hc, by simp [hd]⟩
theorem sqT_at {a : Addr} {xs : List V} (hok : HOk P w H h) (KX : K.In h) (q : SqT K H a xs) : ∃ (its : List Value) (o : Obj) (n : Nat), Vals xs its ∧ h.get? a = some o ∧ o.cls = .type "tuple" ∧ o.data = .seq its.toArray n := by
  rcases q with q | ⟨o, its, n, e, hc, hd, _, hv⟩
  · obtain ⟨_, its, hv, o, e, hc, n, hd⟩ := (show ObjOk P w H h a (.tup xs) from q.ok hok)
    exact ⟨its, o, n, hv, e, hc, hd⟩
  · exact ⟨its.toList, o, n, hv, KX _ _ e, hc, by simp [hd]⟩
mutual
theorem Dw.reads (hok : HOk P w H h) (KX : K.In h) : ∀ (d : WData) (v : V) (u : Value), Dw K H v d → RelV v u → ∃ as, ReadsW R cl h u d as
  | .none, _, _, x, r => by
    cases x
    cases r
    exact ⟨_, ReadsW.none⟩
  | .bool b, _, _, x, r => by
    cases x
    cases r
    exact ⟨_, ReadsW.bool b⟩
  | .int i, _, _, x, r => by
    cases x
    obtain ⟨t, rfl⟩ := r
    exact ⟨_, ReadsW.int i t⟩
  | .str s, _, _, x, r => by
    cases x
    obtain ⟨t, rfl⟩ := r
    exact ⟨_, ReadsW.str s t⟩
  | .bytes b, _, _, x, r => by
    cases x
    obtain ⟨t, rfl⟩ := r
    exact ⟨_, ReadsW.bytes _ t⟩
  | .list ds, _, _, x, r => by
    cases x with
    | lst hs ha =>
      cases r
      obtain ⟨its, o, n, rv, ho, hc, hd⟩ := sqL_at hok KX hs
      obtain ⟨as, hr⟩ := Dw.readsAll hok KX ds _ its ha rv
      exact ⟨_, ReadsW.list ho hc hd hr⟩
  | .tuple ds, _, _, x, r => by
    cases x with
    | tup hs ha =>
      cases r
      obtain ⟨its, o, n, rv, ho, hc, hd⟩ := sqT_at hok KX hs
      obtain ⟨as, hr⟩ := Dw.readsAll hok KX ds _ its ha rv
      exact ⟨_, ReadsW.tuple ho hc hd hr⟩
  | .float _, _, _, x, _ => by cases x
  | .dict _, _, _, x, _ => by cases x
  | .bytearray _, _, _, x, _ => by cases x
  | .set _, _, _, x, _ => by cases x
  | .frozenset _, _, _, x, _ => by cases x
  | .obj _ _, _, _, x, _ => by cases x
theorem Dw.readsAll (hok : HOk P w H h) (KX : K.In h) : ∀ (ds : List WData) (vs : List V) (us : List Value), DwAll K H vs ds → Vals vs us → ∃ as, ReadsAllW R cl h us ds as
  | [], _, _, x, r => by
    cases x
    cases r
    exact ⟨_, ReadsAllW.nil⟩
  | d :: ds, _, _, x, r => by
    cases x with
    | cons h1 h2 =>
      cases r with
      | cons r1 r2 =>
        obtain ⟨as, q1⟩ := Dw.reads hok KX d _ _ h1 r1
        obtain ⟨bs, q2⟩ := Dw.readsAll hok KX ds _ _ h2 r2
        exact ⟨_, ReadsAllW.cons q1 q2⟩
end
end
/-! ### the arguments -/
mutual
/-- data that a codec tells -/
def plW : WData → Bool
  | .none => true
  | .bool _ => true
  | .int _ => true
  | .str _ => true
  | .bytes _ => true
  | .list xs => plWs xs
  | .tuple xs => plWs xs
  | _ => false
def plWs : List WData → Bool
  | [] => true
  | x :: r => plW x && plWs r
end
theorem plWs_map {α : Type} {f : α → WData} (h : ∀ a, plW (f a) = true) : ∀ l : List α, plWs (l.map f) = true
  | [] => rfl
  | x :: r => by
    show (plW (f x) && plWs (r.map f)) = true
    rw [h x, plWs_map h r] <;> rfl
theorem pl_enc : ∀ (c : Codec) (a : c.denote), plW (c.enc a) = true
  | .unit, _ => rfl
  | .bool, _ => rfl
  | .int _ _, _ => rfl
  | .nat _ _, _ => rfl
  | .u8, _ => rfl
  | .bytes _ _, _ => rfl
  | .text _ _ _ _, _ => rfl
  | .list _ _ c, a => plWs_map (fun x => pl_enc c x) a
  | .pair c d, a => by
    show (plW (c.enc a.1) && (plW (d.enc a.2) && true)) = true
    rw [pl_enc c a.1, pl_enc d a.2] <;> rfl
  | .triple c d e, a => by
    show (plW (c.enc a.1) && (plW (d.enc a.2.1) && (plW (e.enc a.2.2) && true))) = true
    rw [pl_enc c a.1, pl_enc d a.2.1, pl_enc e a.2.2] <;> rfl
  | .option c, none => rfl
  | .option c, some x => pl_enc c x
theorem pl_encAll : ∀ (cs : List Codec) (a : Codec.denoteAll cs), plWs (Codec.encAll cs a) = true
  | [], _ => rfl
  | c :: cs, a => by
    show (plW (c.enc a.1) && plWs (Codec.encAll cs a.2)) = true
    rw [pl_enc c a.1, pl_encAll cs a.2] <;> rfl
theorem weight_mem : ∀ {xs : List WData} {d : WData}, d ∈ xs → d.weight ≤ WData.weightAll xs
  | [], d, h => absurd h (by simp)
  | x :: r, d, h => by
    show d.weight ≤ x.weight + 1 + WData.weightAll r
    rcases List.mem_cons.mp h with e | m
    · rw [e]
      omega
    · have z := weight_mem m
      omega
def toV : Value → V
  | .none => .non
  | .bool b => .bl b
  | .int i _ => .int i
  | .str x _ => .str x
  | .bytes b _ => .byt b
  | .ref a => .ref a
  | _ => .non
/-- a value of the arguments, its objects among A -/
def OkU (A : List Addr) : Value → Prop
  | .none => True
  | .bool _ => True
  | .int _ _ => True
  | .str _ _ => True
  | .bytes _ _ => True
  | .ref a => a ∈ A
  | _ => False
theorem OkU.mono {A B : List Addr} (h : ∀ a ∈ A, a ∈ B) : ∀ {u : Value}, OkU A u → OkU B u := fun {u} x => by
  cases u with
  | ref a => exact h a x
  | none => trivial
  | bool b => trivial
  | int i t => trivial
  | str s t => trivial
  | bytes b t => trivial
  | _ => exact False.elim x
theorem relV_toV {A : List Addr} {u : Value} (x : OkU A u) : RelV (toV u) u := by
  cases u with
  | ref a => rfl
  | none => rfl
  | bool b => rfl
  | int i t => exact ⟨t, rfl⟩
  | str s t => exact ⟨t, rfl⟩
  | bytes b t => exact ⟨t, rfl⟩
  | _ => exact False.elim x
theorem vals_toV {A : List Addr} : ∀ {vs : List Value}, (∀ u ∈ vs, OkU A u) → Vals (vs.map toV) vs
  | [], _ => .nil
  | u :: r, h => .cons (relV_toV (h u (List.mem_cons_self ..))) (vals_toV fun x hx => h x (List.mem_cons_of_mem _ hx))
/-- an object of the arguments -/
def ArgOb (h : Heap) (A : List Addr) (a : Addr) : Prop := ∃ vs : List Value, vs.length ≤ sizeLine ∧ (∀ u ∈ vs, OkU A u) ∧
  (h.get? a = some { cls := .type "list", data := .seq vs.toArray } ∨ h.get? a = some { cls := .type "tuple", data := .seq vs.toArray })
theorem ArgOb.mono {h : Heap} {A B : List Addr} {a : Addr} (k : ∀ a ∈ A, a ∈ B) (x : ArgOb h A a) : ArgOb h B a := by
  obtain ⟨vs, h1, h2, h3⟩ := x
  exact ⟨vs, h1, fun u hu => (h2 u hu).mono k, h3⟩
theorem wellAll_len {P : Params} {h : Heap} : ∀ {vs : List Value} {ds : List WData}, WellAll P h vs ds → vs.length = ds.length
  | _, _, .nil => rfl
  | _, _, .cons _ b => by
    show _ + 1 = _ + 1
    rw [wellAll_len b]
theorem well_list {P : Params} {h : Heap} {v : Value} {ds : List WData} (x : Well P h v (.list ds)) : ∃ (a : Addr) (vs : List Value), v = .ref a ∧ h.get? a = some { cls := .type "list", data := .seq vs.toArray } ∧ WellAll P h vs ds := by
  cases x with
  | list ho hall => exact ⟨_, _, rfl, ho, hall⟩
theorem well_tuple {P : Params} {h : Heap} {v : Value} {ds : List WData} (x : Well P h v (.tuple ds)) : ∃ (a : Addr) (vs : List Value), v = .ref a ∧ h.get? a = some { cls := .type "tuple", data := .seq vs.toArray } ∧ WellAll P h vs ds := by
  cases x with
  | tuple ho hall => exact ⟨_, _, rfl, ho, hall⟩
theorem well_cons {P : Params} {h : Heap} {us : List Value} {d : WData} {ds : List WData} (x : WellAll P h us (d :: ds)) : ∃ (v : Value) (vs : List Value), us = v :: vs ∧ Well P h v d ∧ WellAll P h vs ds := by
  cases x with
  | cons a b => exact ⟨_, _, rfl, a, b⟩
theorem line_of {n : Nat} (h : n ≤ 1048576) : n ≤ sizeLine := Nat.le_trans h (by decide)
section
variable {P : Params} {h : Heap}
mutual
theorem area_one : ∀ (d : WData) (v : Value), Well P h v d → plW d = true → d.weight ≤ 1048576 → ∃ A : List Addr, OkU A v ∧ ∀ a ∈ A, ArgOb h A a
  | .none, _, x, _, _ => by
    cases x
    exact ⟨[], trivial, fun a m => absurd m (by simp)⟩
  | .bool b, _, x, _, _ => by
    cases x
    exact ⟨[], trivial, fun a m => absurd m (by simp)⟩
  | .int i, _, x, _, _ => by
    cases x
    exact ⟨[], trivial, fun a m => absurd m (by simp)⟩
  | .str s, _, x, _, _ => by
    cases x
    exact ⟨[], trivial, fun a m => absurd m (by simp)⟩
  | .bytes b, _, x, _, _ => by
    cases x
    exact ⟨[], trivial, fun a m => absurd m (by simp)⟩
  | .list ds, _, x, p, z => by
    obtain ⟨a, vs, rfl, ho, hall⟩ := well_list x
    have z2 : WData.weightAll ds ≤ 1048576 := z
    obtain ⟨A, h1, h2⟩ := area_all ds _ hall p fun d hd => Nat.le_trans (weight_mem hd) z2
    have k : ∀ b ∈ A, b ∈ a :: A := fun b hb => List.mem_cons_of_mem _ hb
    refine ⟨a :: A, List.mem_cons_self .., fun b hb => ?_⟩
    rcases List.mem_cons.mp hb with e | m
    · rw [e]
      exact ⟨vs, line_of (by rw [wellAll_len hall]; exact Nat.le_trans (PySem.W.length_le_weightAllW ds) z2), fun u hu => (h1 u hu).mono k, .inl ho⟩
    · exact (h2 b m).mono k
  | .tuple ds, _, x, p, z => by
    obtain ⟨a, vs, rfl, ho, hall⟩ := well_tuple x
    have z2 : WData.weightAll ds ≤ 1048576 := z
    obtain ⟨A, h1, h2⟩ := area_all ds _ hall p fun d hd => Nat.le_trans (weight_mem hd) z2
    have k : ∀ b ∈ A, b ∈ a :: A := fun b hb => List.mem_cons_of_mem _ hb
    refine ⟨a :: A, List.mem_cons_self .., fun b hb => ?_⟩
    rcases List.mem_cons.mp hb with e | m
    · rw [e]
      exact ⟨vs, line_of (by rw [wellAll_len hall]; exact Nat.le_trans (PySem.W.length_le_weightAllW ds) z2), fun u hu => (h1 u hu).mono k, .inr ho⟩
    · exact (h2 b m).mono k
  | .float _, _, _, p, _ => Bool.noConfusion (show false = true from p)
  | .dict _, _, _, p, _ => Bool.noConfusion (show false = true from p)
  | .bytearray _, _, _, p, _ => Bool.noConfusion (show false = true from p)
  | .set _, _, _, p, _ => Bool.noConfusion (show false = true from p)
  | .frozenset _, _, _, p, _ => Bool.noConfusion (show false = true from p)
  | .obj _ _, _, _, p, _ => Bool.noConfusion (show false = true from p)
theorem area_all : ∀ (ds : List WData) (vs : List Value), WellAll P h vs ds → plWs ds = true → (∀ d ∈ ds, d.weight ≤ 1048576) → ∃ A : List Addr, (∀ u ∈ vs, OkU A u) ∧ ∀ a ∈ A, ArgOb h A a
  | [], _, x, _, _ => by
    cases x
    exact ⟨[], fun u m => absurd m (by simp), fun a m => absurd m (by simp)⟩
  | d :: ds, _, x, p, z => by
    obtain ⟨v, vs, rfl, x1, x2⟩ := well_cons x
    have q : plW d = true ∧ plWs ds = true := Bool.and_eq_true_iff.mp p
    obtain ⟨A, a1, a2⟩ := area_one d v x1 q.1 (z d (List.mem_cons_self ..))
    obtain ⟨B, b1, b2⟩ := area_all ds vs x2 q.2 fun e he => z e (List.mem_cons_of_mem _ he)
    have kA : ∀ b ∈ A, b ∈ A ++ B := fun b hb => List.mem_append.mpr (.inl hb)
    have kB : ∀ b ∈ B, b ∈ A ++ B := fun b hb => List.mem_append.mpr (.inr hb)
    refine ⟨A ++ B, fun u hu => ?_, fun b hb => ?_⟩
    · rcases List.mem_cons.mp hu with e | m
      · rw [e]
        exact a1.mono kA
      · exact (b1 u m).mono kB
    · rcases List.mem_append.mp hb with m | m
      · exact (a2 b m).mono kA
      · exact (b2 b m).mono kB
end
end
/-- what is tracked of an argument's object -/
def hoOf (o : Obj) : Option HO := match o.data with
  | .seq vs _ => if (o.cls == Value.type "list") = true then some (.frz o (.lst (vs.toList.map toV))) else some (.frz o (.tup (vs.toList.map toV)))
  | _ => none
def argH (K : PySem.W.Frag) (h : Heap) (A : List Addr) : Hp := fun b => if b ∈ A then (if (K.lookup b).isNone = true then (h.get? b).bind hoOf else none) else none
/-- nothing is tracked but what is known to the object -/
def OnlyF (H : Hp) : Prop := ∀ b, H b = none ∨ ∃ o u, H b = some (.frz o u)
theorem hoOf_lst (vs : List Value) : hoOf { cls := .type "list", data := .seq vs.toArray } = some (.frz { cls := .type "list", data := .seq vs.toArray } (.lst (vs.map toV))) := by
  show (if (Value.type "list" == Value.type "list") = true then some (HO.frz { cls := .type "list", data := .seq vs.toArray } (.lst (vs.toArray.toList.map toV))) else some (HO.frz { cls := .type "list", data := .seq vs.toArray } (.tup (vs.toArray.toList.map toV)))) = _
  rw [if_pos (beq_self_eq_true _)]
theorem hoOf_tup (vs : List Value) : hoOf { cls := .type "tuple", data := .seq vs.toArray } = some (.frz { cls := .type "tuple", data := .seq vs.toArray } (.tup (vs.map toV))) := by
  show (if (Value.type "tuple" == Value.type "list") = true then some (HO.frz { cls := .type "tuple", data := .seq vs.toArray } (.lst (vs.toArray.toList.map toV))) else some (HO.frz { cls := .type "tuple", data := .seq vs.toArray } (.tup (vs.toArray.toList.map toV)))) = _
  rw [if_neg (by decide)]
section
variable {P : Program} {w : World} {K : PySem.W.Frag} {h : Heap} {A : List Addr}
theorem argH_at {b : Addr} {o : Obj} (hb : b ∈ A) (hk : K.lookup b = none) (e : h.get? b = some o) : argH K h A b = hoOf o := by
  unfold argH
  rw [if_pos hb, hk, if_pos (show (none : Option Obj).isNone = true from rfl), e] <;> rfl
theorem of_argH {b : Addr} {u : HO} (q : argH K h A b = some u) : b ∈ A ∧ K.lookup b = none := by
  unfold argH at q
  by_cases hb : b ∈ A
  · rw [if_pos hb] at q
    cases hk : K.lookup b with
    | none => exact ⟨hb, rfl⟩
    | some o =>
      rw [hk, if_neg (by simp)] at q
      cases q
  · rw [if_neg hb] at q
    cases q
/-- what stands tracked -/
theorem argH_is (ar : ∀ a ∈ A, ArgOb h A a) {b : Addr} {u : HO} (q : argH K h A b = some u) : K.lookup b = none ∧ ∃ vs : List Value, vs.length ≤ sizeLine ∧ (∀ u ∈ vs, OkU A u) ∧
    ((h.get? b = some { cls := .type "list", data := .seq vs.toArray } ∧ u = .frz { cls := .type "list", data := .seq vs.toArray } (.lst (vs.map toV))) ∨
     (h.get? b = some { cls := .type "tuple", data := .seq vs.toArray } ∧ u = .frz { cls := .type "tuple", data := .seq vs.toArray } (.tup (vs.map toV)))) := by
  obtain ⟨hb, hk⟩ := of_argH q
  obtain ⟨vs, h1, h2, h3⟩ := ar b hb
  refine ⟨hk, vs, h1, h2, ?_⟩
  rcases h3 with e | e
  · rw [argH_at hb hk e, hoOf_lst] at q
    exact .inl ⟨e, (Option.some.inj q).symm⟩
  · rw [argH_at hb hk e, hoOf_tup] at q
    exact .inr ⟨e, (Option.some.inj q).symm⟩
theorem argH_only (ar : ∀ a ∈ A, ArgOb h A a) : OnlyF (argH K h A) := fun b => by
  cases q : argH K h A b with
  | none => exact .inl rfl
  | some u =>
    obtain ⟨_, vs, _, _, ⟨_, e⟩ | ⟨_, e⟩⟩ := argH_is ar q
    · exact .inr ⟨_, _, by rw [e]⟩
    · exact .inr ⟨_, _, by rw [e]⟩
theorem argH_ok (ar : ∀ a ∈ A, ArgOb h A a) : HOk P w (argH K h A) h := fun b u q => by
  obtain ⟨_, vs, h1, h2, ⟨e, rfl⟩ | ⟨e, rfl⟩⟩ := argH_is ar q
  · exact ⟨e, by rw [List.length_map]; exact h1, vs, _, vals_toV h2, e⟩
  · exact ⟨e, by rw [List.length_map]; exact h1, vs, vals_toV h2, _, e, rfl, _, rfl⟩
theorem seq_inj {c c' : Value} {vs us : List Value} (e : (some { cls := c, data := .seq vs.toArray } : Option Obj) = some { cls := c', data := .seq us.toArray }) : c = c' ∧ vs = us := by
  have e1 := Option.some.inj e
  have e2 : c = c' := congrArg Obj.cls e1
  have e3 : Data.seq vs.toArray = Data.seq us.toArray := congrArg Obj.data e1
  injection e3 with e4
  refine ⟨e2, ?_⟩
  have e5 := congrArg Array.toList e4
  simpa using e5
/-- a list argument -/
theorem argL (KX : K.In h) (ar : ∀ a ∈ A, ArgOb h A a) {a : Addr} {vs : List Value} (ha : a ∈ A) (e : h.get? a = some { cls := .type "list", data := .seq vs.toArray }) : (∀ u ∈ vs, OkU A u) ∧ SqL K (argH K h A) a (vs.map toV) := by
  obtain ⟨us, h1, h2, h3⟩ := ar a ha
  have hu : us = vs := by
    rcases h3 with q | q
    · rw [e] at q
      exact (seq_inj q).2.symm
    · rw [e] at q
      exact absurd (Value.type.inj (seq_inj q).1) (by decide)
  subst hu
  refine ⟨h2, ?_⟩
  cases hk : K.lookup a with
  | none => exact .inl (.inr ⟨_, by rw [argH_at ha hk e, hoOf_lst]⟩)
  | some o =>
    have e2 := KX a o hk
    rw [e] at e2
    obtain rfl := Option.some.inj e2
    exact .inr ⟨_, us.toArray, _, hk, rfl, rfl, rfl, by rw [List.size_toArray]; exact h1, by simpa using vals_toV h2⟩
theorem argT (KX : K.In h) (ar : ∀ a ∈ A, ArgOb h A a) {a : Addr} {vs : List Value} (ha : a ∈ A) (e : h.get? a = some { cls := .type "tuple", data := .seq vs.toArray }) : (∀ u ∈ vs, OkU A u) ∧ SqT K (argH K h A) a (vs.map toV) := by
  obtain ⟨us, h1, h2, h3⟩ := ar a ha
  have hu : us = vs := by
    rcases h3 with q | q
    · rw [e] at q
      exact absurd (Value.type.inj (seq_inj q).1) (by decide)
    · rw [e] at q
      exact (seq_inj q).2.symm
  subst hu
  refine ⟨h2, ?_⟩
  cases hk : K.lookup a with
  | none => exact .inl (.inr ⟨_, by rw [argH_at ha hk e, hoOf_tup]⟩)
  | some o =>
    have e2 := KX a o hk
    rw [e] at e2
    obtain rfl := Option.some.inj e2
    exact .inr ⟨_, us.toArray, _, hk, rfl, rfl, by rw [List.size_toArray]; exact h1, by simpa using vals_toV h2⟩
mutual
theorem dw_one {Pm : Params} (KX : K.In h) (ar : ∀ a ∈ A, ArgOb h A a) : ∀ (d : WData) (v : Value), Well Pm h v d → plW d = true → OkU A v → Dw K (argH K h A) (toV v) d
  | .none, _, x, _, _ => by
    cases x
    exact .non
  | .bool b, _, x, _, _ => by
    cases x
    exact .bl b
  | .int i, _, x, _, _ => by
    cases x
    exact .int i
  | .str s, _, x, _, _ => by
    cases x
    exact .str s
  | .bytes b, _, x, _, _ => by
    cases x
    have z := Dw.byt (K := K) (H := argH K h A) b.toArray
    exact z
  | .list ds, _, x, p, hu => by
    obtain ⟨a, vs, rfl, ho, hall⟩ := well_list x
    obtain ⟨h2, hs⟩ := argL KX ar hu ho
    exact .lst hs (dw_all KX ar ds _ hall p h2)
  | .tuple ds, _, x, p, hu => by
    obtain ⟨a, vs, rfl, ho, hall⟩ := well_tuple x
    obtain ⟨h2, hs⟩ := argT KX ar hu ho
    exact .tup hs (dw_all KX ar ds _ hall p h2)
  | .float _, _, _, p, _ => Bool.noConfusion (show false = true from p)
  | .dict _, _, _, p, _ => Bool.noConfusion (show false = true from p)
  | .bytearray _, _, _, p, _ => Bool.noConfusion (show false = true from p)
  | .set _, _, _, p, _ => Bool.noConfusion (show false = true from p)
  | .frozenset _, _, _, p, _ => Bool.noConfusion (show false = true from p)
  | .obj _ _, _, _, p, _ => Bool.noConfusion (show false = true from p)
theorem dw_all {Pm : Params} (KX : K.In h) (ar : ∀ a ∈ A, ArgOb h A a) : ∀ (ds : List WData) (vs : List Value), WellAll Pm h vs ds → plWs ds = true → (∀ u ∈ vs, OkU A u) → DwAll K (argH K h A) (vs.map toV) ds
  | [], _, x, _, _ => by
    cases x
    exact .nil
  | d :: ds, _, x, p, hu => by
    obtain ⟨v, vs, rfl, x1, x2⟩ := well_cons x
    have q : plW d = true ∧ plWs ds = true := Bool.and_eq_true_iff.mp p
    exact .cons (dw_one KX ar d v x1 q.1 (hu _ (List.mem_cons_self ..))) (dw_all KX ar ds vs x2 q.2 fun u m => hu u (List.mem_cons_of_mem _ m))
end
end
/-! ### the call -/
theorem spec_call {P : Program} {w : World} {K : PySem.W.Frag} {mg mb : Str → Option Value} {CX : CXT} {k : Nat} {fa : Addr} {fd : FuncData} {ps : List Str} {sp : Sp} {s₁ : Shared} {vals : List Value} {ds : List WData} {R : PySem.W.WRecords} {cl : Str → Option Addr} {d0 : WData}
    (KX : K.In s₁.heap) (hns : s₁.heap.Ns mainGlobals mg) (hb : s₁.heap.Ns builtinsNs mb) (hbb : ∀ x : Str, x ≠ "__name__" → mb x = bootBuiltins x) (hlim : s₁.heap.NoLimit) (hg : s₁.gens = #[])
    (hwl : WellAll w.params s₁.heap vals ds) (hpl : plWs ds = true) (hwt : ∀ d ∈ ds, d.weight ≤ 1048576) (hr : Room k callerA)
    (F : ∀ base : Heap, K.In base → base.Ns mainGlobals mg → FnOk P w K mg base CX k fa fd ps sp) (hbind : ∀ (s : Shared) (us : List Value), us.length = ps.length → BindsTo s fd ⟨us, []⟩ (ps.zip us)) (hlen : ds.length = ps.length)
    (hsp : ∀ (H : Hp) (xs : List V), OnlyF H → DwAll K H xs ds → sp xs H (fun v H' => Dw K H' v d0) fun _ _ _ => False)
    (hCX : ∀ H e s', CX [] H s₁ (fun _ _ _ => False) e s' → False) :
    codeAny (model P w) callerA (.call (.ref fa) ⟨vals, []⟩) (fun r s' => ∃ u as, r = .ok (.ret u) ∧ ReadsW R cl s'.heap u d0 as ∧ OldK s₁.heap s'.heap ∧ s'.os = s₁.os ∧ AllBare s'.gens) s₁ := by
  obtain ⟨A, ho, ar⟩ := area_all ds vals hwl hpl hwt
  have hO : OnlyF (argH K s₁.heap A) := argH_only ar
  have hok : HOk P w (argH K s₁.heap A) s₁.heap := argH_ok ar
  have hS := dw_all KX ar ds vals hwl hpl ho
  have hV := vals_toV ho
  have hK : ∀ b u, argH K s₁.heap A b = some u → K.lookup b = none := fun b u q => (argH_is ar q).1
  have noA : ∀ {b : Addr} {o : Obj} {es : Array DictEntry} {ep : Nat}, s₁.heap.get? b = some o → o.data = .dict es ep → argH K s₁.heap A b = none := fun {b o es ep} e d => by
    cases q : argH K s₁.heap A b with
    | none => rfl
    | some u =>
      obtain ⟨_, vs, _, _, ⟨e2, _⟩ | ⟨e2, _⟩⟩ := argH_is ar q
      · rw [e2] at e
        cases e
        have d' : Data.seq vs.toArray _ = Data.dict es ep := d
        cases d'
      · rw [e2] at e
        cases e
        have d' : Data.seq vs.toArray _ = Data.dict es ep := d
        cases d'
  generalize argH K s₁.heap A = H at hO hok hS hK noA
  have base_of : ∀ {b : Addr} {o : Obj}, s₁.heap.get? b = some o → H b = none → (hidT s₁.heap H).get? b = some o := fun e n => hidT_get e n
  have nsK : ∀ {b : Addr} {m : Str → Option Value}, s₁.heap.Ns b m → (hidT s₁.heap H).Ns b m := fun {b m} ⟨o, es, ep, e, d, r⟩ => ⟨o, es, ep, base_of e (noA e d), d, r⟩
  have nK : ∀ b o, K.lookup b = some o → H b = none := fun b o e => by
    cases q : H b with
    | none => rfl
    | some u =>
      rw [hK b u q] at e
      cases e
  have hKb : K.In (hidT s₁.heap H) := fun b o e => base_of (KX b o e) (nK b o e)
  have hM : Mod K mg (hidT s₁.heap H) := ⟨hKb, nsK hns, ⟨mb, nsK hb, hbb⟩, let ⟨mc, h1, h2⟩ := hlim; ⟨mc, nsK h1, h2⟩⟩
  have e0 : Env0 P w K mg (hidT s₁.heap H) callerA [] s₁ H := ⟨rfl, hM, fun b o e => of_hidT e, Nat.le_of_eq (hidT_size _ _), trivial, fun b hb => absurd (show b ∈ ([] : List Addr) from hb) (by simp), hok, .of_eq hg⟩
  have hl : vals.length = ps.length := by rw [wellAll_len hwl]; exact hlen
  refine codeAny_mono ((F _ hKb (nsK hns)).run callerA [] s₁ H ⟨vals, []⟩ vals (vals.map toV) _ _ hr e0 (hbind s₁ vals hl) hV (hsp H _ hO hS)) fun r s' x => ?_
  cases r with
  | error e => exact (hCX H e s' x).elim
  | ok fl =>
    cases fl with
    | next => exact False.elim x
    | brk => exact False.elim x
    | cont => exact False.elim x
    | ret u =>
      obtain ⟨v, H', os, bare, un, hok', r', q⟩ := x
      have kept : ∀ b o, s₁.heap.get? b = some o → s'.heap.get? b = some o := fun b o e => by
        cases q2 : H b with
        | none => exact un.keep b o e q2 (by intro z; exact absurd (show b ∈ ([] : List Addr) from z) (by simp)) (by simp)
        | some u2 =>
          rcases hO b with z | ⟨ob, u3, z⟩
          · rw [q2] at z
            cases z
          · have z2 := un.frzs b ob _ z
            obtain ⟨e1, _⟩ := hok b _ z
            obtain ⟨e2, _⟩ := hok' b _ z2
            rw [e] at e1
            cases e1
            exact e2
      have KX' : K.In s'.heap := fun b o e => kept b o (KX b o e)
      obtain ⟨as, hrd⟩ := Dw.reads (R := R) (cl := cl) hok' KX' d0 v u q r'
      exact ⟨u, as, rfl, hrd, OldK.of_keep kept, os, bare⟩
/-! ### the row -/
theorem layable_weight {ds : List WData} (h : WData.layableAll ds = true) : ∀ d ∈ ds, d.weight ≤ 1048576 := fun d hd =>
  (PySem.W.layableW_iff.mp (List.all_eq_true.mp h d hd)).2.2
theorem encAll_len : ∀ (cs : List Codec) (a : Codec.denoteAll cs), (Codec.encAll cs a).length = cs.length
  | [], _ => rfl
  | c :: cs, a => by
    show (Codec.encAll cs a.2).length + 1 = cs.length + 1
    rw [encAll_len cs a.2]
/-- the goal that k_headS leaves (case hc), from the promise of the row's def: whatever the arguments that the codecs let and the row asks for, the def gives what stands for enc (f ..) -/
theorem walk_spec {r : OpenSpec} {k : Nat} {q : Program} {loose : List Str} {XP : (Str → Option Value) → Heap → Prop} {YP : World → Heap → Prop} {d : DefRec} {K : Params → PySem.W.Frag} {CX : World → CXT} {ps : List Str} {sp : World → Sp}
    (hwell : r.wellSaid = true) (hdf : d.params.defaults = []) (hlen : r.args.length = ps.length) (hr : Room k callerA)
    (hY : ∀ (w : World) (h : Heap), YP w h → (K w.params).In h)
    (F : ∀ (w : World) (mg : Str → Option Value) (fa : Addr) (h : Heap), YP w h → (K w.params).In h → h.Ns mainGlobals mg → mg d.name = some (.ref fa) →
      ∃ fd : FuncData, (∀ (s : Shared) (us : List Value), us.length = ps.length → BindsTo s fd ⟨us, []⟩ (ps.zip us)) ∧
        ∀ base : Heap, (K w.params).In base → base.Ns mainGlobals mg → FnOk r.prog w (K w.params) mg base (CX w) k fa fd ps (sp w))
    (hsp : ∀ (w : World) (H : Hp) (xs : List V) (a : Codec.denoteAll r.args), OnlyF H → Codec.withinAll r.args a = true → Codec.app r.args r.asked a = true → DwAll (K w.params) H xs (Codec.encAll r.args a) →
      sp w xs H (fun v H' => Dw (K w.params) H' v (r.ret.enc (Codec.app r.args r.f a))) fun _ _ _ => False)
    (hCX : ∀ (w : World) (H : Hp) (s : Shared) (e : Value) (s' : Shared), CX w [] H s (fun _ _ _ => False) e s' → False) :
    PySem.W.WalkOS q loose XP YP r d [] (fun f vs => PySem.call f vs) := by
  intro w s_0 s₁ mg mb G Y fa o pm cd doc dV kV ho hd hcd hD hmg hg args vals as hpre hlay hrd hwl hlo
  obtain ⟨a, e1, e2⟩ := PySem.W.os_pre_some hpre
  obtain ⟨e3, hwi⟩ := Codec.encAll_of_decAll r.args args a e1
  subst e3
  have KX := hY w _ Y
  obtain ⟨fd, hb, hF⟩ := F w mg fa _ Y KX G.T.g hmg
  refine PySem.W.enter_call (codeAny_mono (spec_call (R := []) (cl := classAt s_0.heap) (d0 := r.ret.enc (Codec.app r.args r.f a)) KX G.T.g G.T.b G.T.builtins G.T.nolimit hg hwl (pl_encAll _ _) (layable_weight hlay) hr hF hb (by rw [encAll_len]; exact hlen)
    (fun H xs hO hS => hsp w H xs a hO hwi e2 hS) fun H e s' => hCX w H s₁ e s') fun r' s' hq => ?_)
  obtain ⟨u, as', rfl, h1, h2, h3, h4⟩ := hq
  exact ⟨.inl ⟨u, _, as', rfl, fun _ => rfl, h1, (OpenSpec.post_iff hwell hwi _ _).mpr rfl, fun z => Bool.noConfusion (show false = true from z)⟩, h2, h3, h4⟩
/-- the same where the promise hangs on the written part alone -/
theorem walk_specK {r : OpenSpec} {k : Nat} {q : Program} {loose : List Str} {XP : (Str → Option Value) → Heap → Prop} {YP : World → Heap → Prop} {d : DefRec} {K : Params → PySem.W.Frag} {CX : CXT} {ps : List Str} {sp : PySem.W.Frag → Sp}
    (hwell : r.wellSaid = true) (hdf : d.params.defaults = []) (hlen : r.args.length = ps.length) (hr : Room k callerA)
    (hY : ∀ (w : World) (h : Heap), YP w h → (K w.params).In h)
    (F : ∀ (w : World) (mg : Str → Option Value) (fa : Addr) (h : Heap), YP w h → (K w.params).In h → h.Ns mainGlobals mg → mg d.name = some (.ref fa) →
      ∃ fd : FuncData, (∀ (s : Shared) (us : List Value), us.length = ps.length → BindsTo s fd ⟨us, []⟩ (ps.zip us)) ∧
        ∀ base : Heap, (K w.params).In base → base.Ns mainGlobals mg → FnOk r.prog w (K w.params) mg base CX k fa fd ps (sp (K w.params)))
    (hsp : ∀ (K : PySem.W.Frag) (H : Hp) (xs : List V) (a : Codec.denoteAll r.args), OnlyF H → Codec.withinAll r.args a = true → Codec.app r.args r.asked a = true → DwAll K H xs (Codec.encAll r.args a) →
      sp K xs H (fun v H' => Dw K H' v (r.ret.enc (Codec.app r.args r.f a))) fun _ _ _ => False)
    (hCX : ∀ (H : Hp) (s : Shared) (e : Value) (s' : Shared), CX [] H s (fun _ _ _ => False) e s' → False) :
    PySem.W.WalkOS q loose XP YP r d [] (fun f vs => PySem.call f vs) :=
  walk_spec (K := K) (CX := fun _ => CX) (sp := fun w => sp (K w.params)) hwell hdf hlen hr hY F (fun w H xs a h1 h2 h3 h4 => hsp (K w.params) H xs a h1 h2 h3 h4) fun _ H s e s' => hCX H s e s'
end L2

set_option Elab.async false
set_option linter.all false
set_option maxRecDepth 100000
set_option maxHeartbeats 2000000
namespace L2.XC
open PySem PySem.Spec PyProof.Rows
open Builtin Builtin.ObjectAttr
/-- the classes above an own error class -/
abbrev bmE : List Value := [.type "Exception", .type "BaseException", .type "object"]
section
variable {prog : Program} {w : World} {A : Around} {E : Value → Shared → Prop} {h : Heap} {g : Array GenState} {d : Drawn} {t : Nat} {os : OsState}
variable {nm q : Str} {C N x : Addr} {bs : List Value} {sn : List Str} {sub : List Value} {ab : Bool} {col : Option Bool} {dd : Option Addr}
variable {k0 k1 k2 k3 k5 : Option Value} {mN : Str → Option Value} {name : Str} {v : Value} {o : Obj} {ni : String}
/-- the first attribute of an exception: its dict is laid at the heap's end -/
theorem put_entry {tk : Tok} {Q : Fin → Shared → Prop} (hC : h.get? C = some (excClassObj nm q C N bs bmE true sn sub ab col dd k0 k1 k2 k3 k5 ni))
    (hn : h.Ns N mN) (hna : mN name = none) (hB : typeLookup (.type "Exception") name = pure none)
    (hx : h.get? x = some o) (hc : o.cls = .ref C) (hdn : o.dict = none) (hnc : ∀ c, o.data ≠ .cls c)
    (hq : ∀ h' tk', h'.get? x = some { o with dict := some h.objs.size } → h'.Ns1 h.objs.size (fun y => if y = name then some v else none) →
      (∀ b u, b ≠ x → h.get? b = some u → h'.get? b = some u) → Q (.done (.ret .none)) ⟨h', g, d, tk', os⟩) :
    wpAny (model prog w) A (Builtin.«object.__setattr__» ⟨[.ref x, .str name tk, v], []⟩) Q E ⟨h, g, d, t, os⟩ := by
  have SF := PySem.F.store_Exception
  have hp := SF.passes (.ref x)
  have hxs : x ≠ h.objs.size := Nat.ne_of_lt (Heap.lt_size hx)
  unfold Builtin.«object.__setattr__»
  repeat (first
    | rw [refuse_eq]
    | rw [refuseLoop_ref, hp]
    | (with_reducible refine wpAny_loadPart_at hx ?_; rw [hc])
    | with_reducible refine wpAny_mroOf_exc hC ?_
    | (with_reducible refine wpAny_typeLookup_exc hC hn SF.mro hB ?_; rw [hna])
    | wp_step)
  rw [hdn, if_neg (by simp [typeHasDict])]
  split
  · rename_i z
    cases z
  split
  · rename_i c z
    exact absurd z (hnc c)
  · have hx1 : (h.push { cls := .type "dict", data := .dict #[] }).get? x = some o := Heap.get?_push_of_some _ hx
    refine wpAny_bind (wpAny_alloc' (wpAny_bind (wpAny_update' hx1 (wpAny_pure ?_))))
    generalize hU : ((h.push { cls := .type "dict", data := .dict #[] }).update x fun o => { cls := o.cls, dict := some h.objs.size, data := o.data, slots := o.slots }) = hh
    have e1 : hh.get? h.objs.size = some { cls := .type "dict", data := .dict #[] } := by
      rw [← hU]
      exact (Heap.get?_update_ne _ _ _ _ hxs.symm).trans (Heap.get?_push_at rfl rfl)
    have e2 : hh.get? x = some { o with dict := some h.objs.size } := by
      rw [← hU]
      refine Heap.get?_update_self _ hx1 ?_
      have hfr := (Heap.get?_some_iff.mp hx).2
      obtain ⟨oc, od, odt, osl⟩ := o
      cases odt <;> first | rfl | exact hfr
    have e3 : ∀ b u, b ≠ x → h.get? b = some u → hh.get? b = some u := fun b u hb hbu => by
      rw [← hU]
      exact (Heap.get?_update_ne _ _ _ _ hb).trans (Heap.get?_push_of_some _ hbu)
    have e4 : hh.Ns h.objs.size (fun _ => none) := ⟨_, #[], _, e1, rfl, fun e he => absurd he (by simp), fun _ => rfl⟩
    show wpAny _ _ (storeInDict h.objs.size (.str name tk) name v) _ _ _
    unfold storeInDict newKeyGuard
    refine wpAny_bind (wpAny_pure (wpAny_bind (wpAny_nsSet1 (Heap.Ns1.of_empty e4) fun h' n1 sb => ?_)))
    obtain ⟨oD, esD, epD, hoD, hdD, hcD⟩ := n1.count (Within.cons name v Within.nil)
    refine wpAny_bind (wpAny_lookBehind hoD (by rw [hdD]; exact pastItsLine_dict (Nat.le_trans hcD (by rw [List.length_cons, List.length_nil, sizeLine_eq]; omega))) ?_)
    wp_walk
    exact hq h' _ ((sb.2 x hxs).trans e2) n1 fun b u hb hbu => (sb.2 b (Nat.ne_of_lt (Heap.lt_size hbu))).trans (e3 b u hb hbu)
/-- a further one: its dict is there -/
theorem put_entry2 {tk : Tok} {Q : Fin → Shared → Prop} {dx : Addr} {mA : Str → Option Value} {ns : List Str} (hC : h.get? C = some (excClassObj nm q C N bs bmE true sn sub ab col dd k0 k1 k2 k3 k5 ni))
    (hn : h.Ns N mN) (hna : mN name = none) (hB : typeLookup (.type "Exception") name = pure none)
    (hx : h.get? x = some o) (hc : o.cls = .ref C) (hdn : o.dict = some dx) (hne : dx ≠ x) (hns : h.Ns1 dx mA) (hw : Within mA ns) (hsz : ns.length ≤ 1000)
    (hq : ∀ h' tk', h'.Ns1 dx (fun y => if y = name then some v else mA y) →
      (∀ b u, b ≠ dx → h.get? b = some u → h'.get? b = some u) → Q (.done (.ret .none)) ⟨h', g, d, tk', os⟩) :
    wpAny (model prog w) A (Builtin.«object.__setattr__» ⟨[.ref x, .str name tk, v], []⟩) Q E ⟨h, g, d, t, os⟩ := by
  have SF := PySem.F.store_Exception
  have hp := SF.passes (.ref x)
  unfold Builtin.«object.__setattr__»
  repeat (first
    | rw [refuse_eq]
    | rw [refuseLoop_ref, hp]
    | (with_reducible refine wpAny_loadPart_at hx ?_; rw [hc])
    | with_reducible refine wpAny_mroOf_exc hC ?_
    | (with_reducible refine wpAny_typeLookup_exc hC hn SF.mro hB ?_; rw [hna])
    | wp_step)
  rw [hdn]
  refine wpAny_pure ?_
  show wpAny _ _ (storeInDict dx (.str name tk) name v) _ _ _
  unfold storeInDict newKeyGuard
  refine wpAny_bind (wpAny_pure (wpAny_bind (wpAny_nsSet1 hns fun h' n1 sb => ?_)))
  obtain ⟨oD, esD, epD, hoD, hdD, hcD⟩ := n1.count (Within.cons name v hw)
  refine wpAny_bind (wpAny_lookBehind hoD (by rw [hdD]; exact pastItsLine_dict (Nat.le_trans hcD (by rw [List.length_cons, sizeLine_eq]; omega))) ?_)
  wp_walk
  exact hq h' _ n1 fun b u hb hbu => (sb.2 b hb).trans hbu
/-- setAttr, from what object.__setattr__ does -/
theorem put_call {R : Result → Shared → Prop} {tk : Tok} {B sa owner : String} {bm : List Value} (SF : StoreFacts B bm sa owner) (hC : h.get? C = some (excClassObj nm q C N bs bm true sn sub ab col dd k0 k1 k2 k3 k5 ni))
    (hx : h.get? x = some o) (hc : o.cls = .ref C)
    (hq : ∀ (A : Around) (T : Fin → Shared → Prop) (E : Value → Shared → Prop), (∀ s', R (.ok (.ret .none)) s' → T (.done (.ret .none)) s') →
      wpAny (model prog w) A (Builtin.«object.__setattr__» ⟨[.ref x, .str name tk, v], []⟩) T E ⟨h, g, d, t, os⟩) :
    codeAny (model prog w) A (.call (.builtin sa) ⟨[.ref x, .str name tk, v], []⟩) R ⟨h, g, d, t, os⟩ := by
  refine codeAny_call_builtin SF.slot.plain SF.entry (wpAny_check_sa SF hC hx hc ?_)
  refine hq _ _ _ ?_
  intro s' z
  exact z
theorem put_attr {Q : Unit → Shared → Prop} {B sa owner : String} {bm : List Value} (SF : StoreFacts B bm sa owner) (hC : h.get? C = some (excClassObj nm q C N bs bm true sn sub ab col dd k0 k1 k2 k3 k5 ni))
    (hn : h.Ns N mN) (hns : mN "__setattr__" = none) (hx : h.get? x = some o) (hc : o.cls = .ref C)
    (hq : ∀ (A : Around) (R : Result → Shared → Prop) (tk t' : Nat), (∀ s', Q () s' → R (.ok (.ret .none)) s') →
      codeAny (model prog w) A (.call (.builtin sa) ⟨[.ref x, .str name tk, v], []⟩) R ⟨h, g, d, t', os⟩) :
    wpAny (model prog w) A (setAttr (.ref x) name v) Q E ⟨h, g, d, t, os⟩ := by
  have f3 := SF.slot.bind (.ref x)
  unfold setAttr callSpecial? specialOf
  repeat (any_goals (first
    | assumption
    | (with_reducible refine wpAny_loadPart_at hx ?_; rw [hc])
    | (with_reducible refine wpAny_typeLookup_exc hC hn SF.mro SF.slot.lookup ?_; rw [hns])
    | wp_step))
  refine hq _ _ _ _ fun s' z => ?_
  obtain ⟨hh, gg, dd', tt, oo⟩ := s'
  repeat (any_goals (first | (with_reducible assumption) | wp_step))
end
end L2.XC

set_option Elab.async false
set_option linter.all false
set_option maxRecDepth 100000
set_option maxHeartbeats 2000000
namespace L2.XC
open PySem PySem.Spec PyProof.Rows
open Builtin Builtin.ObjectAttr
section
variable {prog : Program} {w : World} {A : Around} {E : Value → Shared → Prop} {h : Heap} {g : Array GenState} {d : Drawn} {t : Nat} {os : OsState}
variable {nm q : Str} {C N x dx : Addr} {bs : List Value} {sn : List Str} {sub : List Value} {ab : Bool} {col : Option Bool} {dd : Option Addr}
variable {k0 k1 k2 k3 k5 : Option Value} {mN mA : Str → Option Value} {name : Str} {v : Value} {o : Obj} {ni : String}
theorem gaL : typeLookup (.type "Exception") "__getattribute__" = pure (some (.builtin "BaseException.__getattribute__")) := by rw [typeLookup_type, builtinLookup_eq_fast]; kernel_rfl
theorem grL : typeLookup (.type "Exception") "__getattr__" = pure none := by rw [typeLookup_type, builtinLookup_eq_fast]; kernel_rfl
theorem got_entry {tk : Tok} {Q : Fin → Shared → Prop} (hC : h.get? C = some (excClassObj nm q C N bs bmE true sn sub ab col dd k0 k1 k2 k3 k5 ni))
    (hn : h.Ns N mN) (hna : mN name = none) (hB : typeLookup (.type "Exception") name = pure none)
    (hx : h.get? x = some o) (hc : o.cls = .ref C) (hnc : ∀ c, o.data ≠ .cls c) (hdn : o.dict = some dx) (hns : h.Ns1 dx mA) (hv : mA name = some v) (hq : Q (.done (.ret v)) ⟨h, g, d, t, os⟩) :
    wpAny (model prog w) A (Builtin.«object.__getattribute__» ⟨[.ref x, .str name tk], []⟩) Q E ⟨h, g, d, t, os⟩ := by
  have SF := PySem.F.store_Exception
  unfold Builtin.«object.__getattribute__»
  repeat (first
    | (with_reducible refine wpAny_loadPart_at hx ?_; rw [hc])
    | (with_reducible refine wpAny_typeLookup_exc hC hn SF.mro hB ?_; rw [hna])
    | wp_step)
  split
  · rename_i c z
    exact absurd z (hnc c)
  unfold instanceDict
  repeat (first
    | (with_reducible refine wpAny_loadPart_at hx ?_; rw [hc])
    | with_reducible refine wpAny_loadPart_at hC ?_
    | wp_step)
  rw [hdn]
  repeat (first | (with_reducible refine wpAny_nsGet hns.ns ?_; rw [hv]) | wp_step)
  exact hq
theorem got_call {tk : Tok} {R : Result → Shared → Prop} (hC : h.get? C = some (excClassObj nm q C N bs bmE true sn sub ab col dd k0 k1 k2 k3 k5 ni))
    (hn : h.Ns N mN) (hna : mN name = none) (hB : typeLookup (.type "Exception") name = pure none)
    (hx : h.get? x = some o) (hc : o.cls = .ref C) (hnc : ∀ c, o.data ≠ .cls c) (hdn : o.dict = some dx) (hns : h.Ns1 dx mA) (hv : mA name = some v) (hq : R (.ok (.ret v)) ⟨h, g, d, t, os⟩) :
    codeAny (model prog w) A (.call (.builtin "BaseException.__getattribute__") ⟨[.ref x, .str name tk], []⟩) R ⟨h, g, d, t, os⟩ :=
  codeAny_call_builtin PySem.F.attrBase_Exception.ga.plain PySem.F.entry_bexc_ga (wpAny_check_ga_own PySem.F.attrBase_Exception hC .base hx hc (got_entry hC hn hna hB hx hc hnc hdn hns hv hq))
theorem got_by {tk : Tok} {fill expr : Bool} {Q : Value → Shared → Prop} (hC : h.get? C = some (excClassObj nm q C N bs bmE true sn sub ab col dd k0 k1 k2 k3 k5 ni))
    (hn : h.Ns N mN) (hg1 : mN "__getattribute__" = none) (hg2 : mN "__getattr__" = none) (hna : mN name = none) (hB : typeLookup (.type "Exception") name = pure none)
    (hx : h.get? x = some o) (hc : o.cls = .ref C) (hnc : ∀ c, o.data ≠ .cls c) (hdn : o.dict = some dx) (hns : h.Ns1 dx mA) (hv : mA name = some v) (hh : handedOut v = pure v) (hq : Q v ⟨h, g, d, t, os⟩) :
    wpAny (model prog w) A (getAttrBy (.ref x) (.str name tk) fill expr) Q E ⟨h, g, d, t, os⟩ := by
  have FB := PySem.F.attrBase_Exception
  have f3 := FB.ga.bind (.ref x)
  have z0 : (expr && onTheHeap (Value.builtin "BaseException.__getattribute__")) = false := by cases expr <;> rfl
  have z2 : (Value.builtin "BaseException.__getattribute__" == Value.builtin "object.__getattribute__") = false := by decide +kernel
  have z1 : (onTheHeap (Value.ref C) && Value.builtin "BaseException.__getattribute__" == Value.builtin "object.__getattribute__") = false := by rw [z2]; rfl
  repeat (any_goals (first
    | assumption
    | (with_reducible refine wpAny_loadPart_at hx ?_; rw [hc])
    | (with_reducible refine wpAny_typeLookup_exc hC hn FB.mro gaL ?_; rw [hg1])
    | (with_reducible refine wpAny_typeLookup_exc hC hn FB.mro grL ?_; rw [hg2])
    | wp_step))
  refine got_call hC hn hna hB hx hc hnc hdn hns hv ?_
  repeat (any_goals (first | assumption | wp_step))
  all_goals (first | (rw [hh]; exact wpAny_pure hq) | exact hq)
theorem got_attr {expr : Bool} {Q : Value → Shared → Prop} (hC : h.get? C = some (excClassObj nm q C N bs bmE true sn sub ab col dd k0 k1 k2 k3 k5 ni))
    (hn : h.Ns N mN) (hg1 : mN "__getattribute__" = none) (hg2 : mN "__getattr__" = none) (hna : mN name = none) (hB : typeLookup (.type "Exception") name = pure none)
    (hx : h.get? x = some o) (hc : o.cls = .ref C) (hnc : ∀ c, o.data ≠ .cls c) (hdn : o.dict = some dx) (hns : h.Ns1 dx mA) (hv : mA name = some v) (hh : handedOut v = pure v) (hq : Q v ⟨h, g, d, t + 1, os⟩) :
    wpAny (model prog w) A (getAttr (.ref x) name expr) Q E ⟨h, g, d, t, os⟩ := by
  unfold getAttr
  refine wpAny_bind (wpAny_mkText ?_)
  exact got_by hC hn hg1 hg2 hna hB hx hc hnc hdn hns hv hh hq
end
end L2.XC

set_option Elab.async false
set_option linter.all false
set_option maxRecDepth 100000
set_option maxHeartbeats 2000000
namespace L2.XC
open PySem PySem.Spec PyProof.Rows
/-- an exception with a dict, its traceback begun: no frame holds it -/
def Landed (h : Heap) (e C dx : Addr) : Prop :=
  ∃ o vs T oT ts, h.get? e = some o ∧ o.cls = .ref C ∧ o.dict = some dx ∧ o.data = .fields vs ∧ vs[1]? = some (.ref T) ∧ T ≠ e ∧ h.get? T = some oT ∧ oT.data = .fields ts ∧ ts[3]? = some .none
/-- just raised: no traceback yet -/
def Fresh (h : Heap) (e C dx : Addr) : Prop := ∃ o vs, h.get? e = some o ∧ o.cls = .ref C ∧ o.dict = some dx ∧ o.data = .fields vs ∧ vs[1]? = some .none
def Fly (h : Heap) (e C dx : Addr) : Prop := Fresh h e C dx ∨ Landed h e C dx
/-- all but the exception and the frames' slots is kept -/
structure Kept (fs : List Addr) (e : Addr) (h h' : Heap) : Prop where
  keep : ∀ b o, b ∉ fs → b ≠ e → h.get? b = some o → h'.get? b = some o
  slot : ∀ b o, b ∈ fs → h.get? b = some o → ∃ sl, h'.get? b = some { o with slots := sl }
section
variable {M : Model} {A : Around} {E E' : Value → Shared → Prop} {s : Shared}
/-- an entry is laid at the end, marked, then the mark is taken away -/
theorem entry_land {base : Heap} {env : Env} {outer : List Env} {L e C dx : Addr} {o : Obj} {vs : Array Value} {head : Value} {had : Bool} {Q : Unit → Shared → Prop}
    (hfr : A.frames = some (env :: outer)) (hl : s.heap.FunFrames base (env :: outer)) (hf : env.frame = some L)
    (he : s.heap.get? e = some o) (hc : o.cls = .ref C) (hdx : o.dict = some dx) (hd : o.data = .fields vs) (hsz : 1 < vs.size)
    (h : ∀ h', Landed h' e C dx → Kept (frs (env :: outer)) e s.heap h' → Q () { s with heap := h' }) :
    wpAny M A (do
      let fo ← frameOf env
      let pl ← entryPlaceOf L had
      let b ← EntryCells.newEntry head fo .none (rawInt L) .none pl
      setField (.ref e) 1 b) (fun _ s' => wpAny M A (setFlight (.ref e) none) Q E s') E' s := by
  have nfr : e ∉ frs (env :: outer) := fun hm => by
    obtain ⟨_, ob, ho, hnf⟩ := hl.mem hm
    rw [he] at ho
    cases ho
    exact hnf vs hd
  refine wpAny_bind (wpAny_frameOf_fun hfr hl hf fun h1 hs => ?_)
  refine wpAny_bind (wpAny_entryPlaceOf fun pl hpl => ?_)
  unfold EntryCells.newEntry newFields
  refine wpAny_bind (wpAny_newObj_type ?_ (hpl.sizeOk5 _ _ _ _ _))
  generalize hX : ({ cls := .type "traceback", dict := none, data := .fields ([head, .ref L, .none, rawInt L, .none] ++ (if pl.isEmpty then List.replicate 6 Value.none else pl)).toArray } : Obj) = X
  have e1 : h1.get? e = some o := (hs.2.1 e nfr).trans he
  have e2 : (h1.push X).get? e = some o := Heap.get?_push_of_some _ e1
  refine wpAny_setField e2 hd hsz ?_
  have nT : h1.objs.size ≠ e := Nat.ne_of_gt (Heap.lt_size e1)
  have d3 := Obj.data_mapFields hd (·.setIfInBounds 1 (Value.ref h1.objs.size))
  have e3 := Heap.get?_update_self (Obj.mapFields (·.setIfInBounds 1 (Value.ref h1.objs.size))) e2 (Obj.isFreed_of_fields d3)
  have xf : ∃ ts : Array Value, X.data = .fields ts ∧ 3 < ts.size := by
    rw [← hX]
    exact ⟨_, rfl, by simp only [List.size_toArray, List.length_append, List.length_cons, List.length_nil]; omega⟩
  obtain ⟨ts, xd, x3⟩ := xf
  have xn : X.isFreed = false := Obj.isFreed_of_fields xd
  have t3 : ((h1.push X).update e (Obj.mapFields (·.setIfInBounds 1 (Value.ref h1.objs.size)))).get? h1.objs.size = some X :=
    (Heap.get?_update_other _ _ (Ne.symm nT)).trans (Heap.get?_push_size h1 xn)
  unfold setFlight
  refine wpAny_bind (wpAny_field e3 d3 (x := .ref h1.objs.size) (by simp [hsz]) ?_)
  rw [if_pos (show (Value.ref h1.objs.size != Value.none) = true from by simp)]
  refine wpAny_setField t3 xd x3 (h _ ?_ ⟨fun b ob nb ne hb => ?_, fun b ob nb hb => ?_⟩)
  · refine ⟨_, _, h1.objs.size, _, _, (Heap.get?_update_other _ _ nT).trans e3, ?_, ?_, d3, by simp [hsz], nT, Heap.get?_update_self _ t3 (Obj.isFreed_of_fields (Obj.data_mapFields xd _)), Obj.data_mapFields xd _, ?_⟩
    · rw [Obj.cls_mapFields]
      exact hc
    · obtain ⟨c1, c2, c3, c4⟩ := o
      cases hd
      exact hdx
    · simp [x3]
  · have q : h1.get? b = some ob := (hs.2.1 b nb).trans hb
    rw [Heap.get?_update_other _ _ (Nat.ne_of_gt (Heap.lt_size q)), Heap.get?_update_other _ _ (Ne.symm ne)]
    exact Heap.get?_push_of_some _ q
  · obtain ⟨sl, q⟩ := hs.2.2 b ob hb
    have ne : b ≠ e := fun z => nfr (z ▸ nb)
    refine ⟨sl, ?_⟩
    rw [Heap.get?_update_other _ _ (Nat.ne_of_gt (Heap.lt_size q)), Heap.get?_update_other _ _ (Ne.symm ne)]
    exact Heap.get?_push_of_some _ q
/-- an exception comes to this frame and is let go -/
theorem fly_land {base : Heap} {env : Env} {outer : List Env} {L e C dx : Addr} {Q : Unit → Shared → Prop}
    (hfr : A.frames = some (env :: outer)) (hl : s.heap.FunFrames base (env :: outer)) (hf : env.frame = some L) (x : Fly s.heap e C dx)
    (h : ∀ h', Landed h' e C dx → Kept (frs (env :: outer)) e s.heap h' → Q () { s with heap := h' }) :
    wpAny M A (noteFrame (.ref e) env) (fun _ s' => wpAny M A (setFlight (.ref e) none) Q E s') E' s := by
  unfold noteFrame
  simp only [hf]
  rcases x with ⟨o, vs, he, hc, hdx, hd, h1⟩ | ⟨o, vs, T, oT, ts, he, hc, hdx, hd, h1, hTe, hT, hdT, h3⟩
  · refine wpAny_bind (wpAny_field he hd h1 ?_)
    rw [if_neg (by decide)]
    exact entry_land hfr hl hf he hc hdx hd (Array.getElem?_eq_some_iff.mp h1).1 h
  · refine wpAny_bind (wpAny_field he hd h1 ?_)
    rw [if_pos (show (Value.ref T != Value.none) = true from by simp)]
    refine wpAny_bind (wpAny_field hT hdT h3 ?_)
    rw [if_neg (show ¬ ((Value.none == rawInt L) = true) from by simp [rawInt])]
    refine wpAny_bind (wpAny_setField hT hdT (Array.getElem?_eq_some_iff.mp h3).1 ?_)
    rw [Heap.update_setField_same s.heap T oT ts 3 .none hT hdT h3]
    exact entry_land hfr hl hf he hc hdx hd (Array.getElem?_eq_some_iff.mp h1).1 h
theorem fly_leave {base : Heap} {env : Env} {outer : List Env} {L e C dx : Addr} {Q : Unit → Shared → Prop}
    (hfr : A.frames = some (env :: outer)) (hl : s.heap.FunFrames base (env :: outer)) (hf : env.frame = some L) (x : Fly s.heap e C dx)
    (h : ∀ h', Landed h' e C dx → Kept (frs (env :: outer)) e s.heap h' → Q () { s with heap := h' }) : wpAny M A (leaving env (.ref e)) Q E s := by
  unfold leaving
  exact wpAny_bind (fly_land hfr hl hf x h)
/-- let go once more: nothing turns -/
theorem landed_again {e C dx : Addr} {Q : Unit → Shared → Prop} (x : Landed s.heap e C dx) (h : Q () s) : wpAny M A (setFlight (.ref e) none) Q E s := by
  obtain ⟨o, vs, T, oT, ts, he, hc, hdx, hd, h1, hTe, hT, hdT, h3⟩ := x
  unfold setFlight
  refine wpAny_bind (wpAny_field he hd h1 ?_)
  rw [if_pos (show (Value.ref T != Value.none) = true from by simp)]
  refine wpAny_setField hT hdT (Array.getElem?_eq_some_iff.mp h3).1 ?_
  show Q () { s with heap := s.heap.update T (Obj.mapFields (·.setIfInBounds 3 Value.none)) }
  rw [Heap.update_setField_same s.heap T oT ts 3 .none hT hdT h3]
  exact h
end
end L2.XC

set_option Elab.async false
set_option linter.all false
set_option maxRecDepth 100000
set_option maxHeartbeats 2000000
namespace L2.XC
open PySem PySem.Spec PyProof.Rows
/-! ### what is tracked of an exception -/
/-- the object, without its traceback; d: its dict -/
def XE (e C : Addr) (d : Option Addr) : HO := .ext fun h => ∃ o vs, h.get? e = some o ∧ o.cls = .ref C ∧ o.dict = d ∧ o.data = .fields vs ∧ vs[1]? = some .none
/-- the object, caught -/
def XL (e C dx : Addr) : HO := .ext fun h => ∃ o vs, h.get? e = some o ∧ o.cls = .ref C ∧ o.dict = some dx ∧ o.data = .fields vs
/-- its dict -/
def XD (dx : Addr) (fs : List (Str × V)) : HO := .ext fun h => ∃ mA, h.Ns1 dx mA ∧ (∀ f, RelO (fs.lookup f) (mA f)) ∧ PySem.Within mA (fs.map (·.1))
theorem xe_ok {P : Program} {w : World} {H : Hp} {h : Heap} {e C : Addr} {d : Option Addr} {o : Obj} {vs : Array Value} (h1 : h.get? e = some o) (h2 : o.cls = .ref C) (h3 : o.dict = d) (h4 : o.data = .fields vs) (h5 : vs[1]? = some .none) : ObjOk P w H h e (XE e C d) :=
  ⟨⟨o, vs, h1, h2, h3, h4, h5⟩, ⟨o, h1⟩, fun _ _ ⟨o, vs, a, b⟩ k => ⟨o, vs, k o a, b⟩⟩
theorem xl_ok {P : Program} {w : World} {H : Hp} {h : Heap} {e C dx : Addr} {o : Obj} {vs : Array Value} (h1 : h.get? e = some o) (h2 : o.cls = .ref C) (h3 : o.dict = some dx) (h4 : o.data = .fields vs) : ObjOk P w H h e (XL e C dx) :=
  ⟨⟨o, vs, h1, h2, h3, h4⟩, ⟨o, h1⟩, fun _ _ ⟨o, vs, a, b⟩ k => ⟨o, vs, k o a, b⟩⟩
theorem xd_ok {P : Program} {w : World} {H : Hp} {h : Heap} {dx : Addr} {fs : List (Str × V)} {mA : Str → Option Value} (h1 : h.Ns1 dx mA) (h2 : ∀ f, RelO (fs.lookup f) (mA f)) (h3 : PySem.Within mA (fs.map (·.1))) : ObjOk P w H h dx (XD dx fs) :=
  ⟨⟨mA, h1, h2, h3⟩, (let ⟨o, _, _, q, _⟩ := h1; ⟨o, q⟩), fun _ _ ⟨mA, n, r⟩ k => ⟨mA, n.at fun o q => k o q, r⟩⟩
theorem xe_of {P : Program} {w : World} {H : Hp} {h : Heap} {e C : Addr} {d : Option Addr} (x : HOk P w H h) (q : H e = some (XE e C d)) : ∃ o vs, h.get? e = some o ∧ o.cls = .ref C ∧ o.dict = d ∧ o.data = .fields vs ∧ vs[1]? = some .none := (x e _ q).1
theorem xl_of {P : Program} {w : World} {H : Hp} {h : Heap} {e C dx : Addr} (x : HOk P w H h) (q : H e = some (XL e C dx)) : ∃ o vs, h.get? e = some o ∧ o.cls = .ref C ∧ o.dict = some dx ∧ o.data = .fields vs := (x e _ q).1
theorem xd_of {P : Program} {w : World} {H : Hp} {h : Heap} {dx : Addr} {fs : List (Str × V)} (x : HOk P w H h) (q : H dx = some (XD dx fs)) : ∃ mA, h.Ns1 dx mA ∧ (∀ f, RelO (fs.lookup f) (mA f)) ∧ PySem.Within mA (fs.map (·.1)) := (x dx _ q).1
/-! ### a thing is no longer tracked -/
def untr (H : Hp) (e : Addr) : Hp := fun b => if b = e then none else H b
theorem untr_same {H : Hp} {e : Addr} : untr H e e = none := by unfold untr; rw [if_pos rfl]
theorem untr_ne {H : Hp} {e b : Addr} (h : b ≠ e) : untr H e b = H b := by unfold untr; rw [if_neg h]
theorem untr_none {H : Hp} {e b : Addr} (h : H b = none) : untr H e b = none := by
  by_cases q : b = e
  · rw [q]; exact untr_same
  · rw [untr_ne q]; exact h
theorem HOk_untr {P : Program} {w : World} {H : Hp} {h : Heap} {e : Addr} {φ : Heap → Prop} (x : HOk P w H h) (he : H e = some (.ext φ)) : HOk P w (untr H e) h := fun a o q => by
  by_cases z : a = e
  · rw [z, untr_same] at q; cases q
  · rw [untr_ne z] at q
    refine (x a o q).stay (fun _ _ _ r => r) (fun b r => ?_) fun b xs r => ?_
    · rw [untr_ne (ne_of r he (by intro y; cases y))]; exact r
    · rw [untr_ne (ne_of r he (by intro y; cases y))]; exact r
theorem Un_untr {fs ex : List Addr} {H H' : Hp} {h h' : Heap} {e : Addr} {φ : Heap → Prop} (u : Un fs ex H H' h h') (he : H' e = some (.ext φ)) : Un fs ex H (untr H' e) h h' :=
  ⟨u.keep, u.slot, fun b o q n hx => untr_none (u.free b o q n hx), u.there,
    fun b xs q => by rw [untr_ne (ne_of (u.tups b xs q) he (by intro y; cases y))]; exact u.tups b xs q,
    fun b o xs q => by rw [untr_ne (ne_of (u.frzs b o xs q) he (by intro y; cases y))]; exact u.frzs b o xs q,
    fun b ps q => by
      obtain ⟨m, r⟩ := u.tbls b ps q
      exact ⟨m, by rw [untr_ne (ne_of r he (by intro y; cases y))]; exact r⟩⟩
section
variable {X : Cx} {pins : List (Addr × Obj)} {σ : St} {H H' : Hp} {s : Shared}
theorem Inv_untr {e : Addr} {φ : Heap → Prop} (I : Inv X pins σ H s) (he : H e = some (.ext φ)) : Inv X pins σ (untr H e) s :=
  ⟨I.ok, I.os, I.bare, Un_untr I.base he, I.loc, I.cell, untr_none I.free, fun x c q => untr_none (I.freeC x c q),
    fun p hp => let ⟨a, b, c⟩ := I.pin p hp; ⟨a, untr_none b, c⟩, HOk_untr I.hok he, I.len⟩
/-- younger than the entry, not the frame's, no pin -/
structure Young (X : Cx) (pins : List (Addr × Obj)) (e : Addr) : Prop where
  new : X.s_0.heap.get? e = none
  loc : e ≠ X.env.locals
  cel : ∀ x c, X.env.cells.lookup x = some c → c ≠ e
  pin : ∀ p ∈ X.pn ++ pins, p.1 ≠ e
  out : e ∉ X.fs
theorem Inv_young {e : Addr} (I : Inv X pins σ H s) (hx : X.ex = []) (he : s.heap.get? e = none) : Young X pins e := by
  refine ⟨?_, ?_, fun x c q z => ?_, fun p hp z => ?_, fun z => ?_⟩
  · cases q : X.s_0.heap.get? e with
    | none => rfl
    | some o =>
      obtain ⟨o', r⟩ := I.base.there e o q (by rw [hx]; simp)
      rw [he] at r; cases r
  · intro z
    obtain ⟨m, ⟨o, _, _, ho, _⟩, _⟩ := I.loc
    rw [← z, he] at ho; cases ho
  · obtain ⟨v, o, ho, _⟩ := I.cell x c q
    rw [z, he] at ho; cases ho
  · obtain ⟨a, _⟩ := I.pin p hp
    rw [z, he] at a; cases a
  · obtain ⟨_, o, ho, _⟩ := I.funs.mem z
    rw [he] at ho; cases ho
/-- it is tracked (again) -/
theorem Inv_track {e : Addr} {o : HO} (I : Inv X pins σ H s) (y : Young X pins e) (hn : H e = none) (ok : ObjOk X.prog X.w (upd H e o) s.heap e o) : Inv X pins σ (upd H e o) s := by
  refine ⟨I.ok, I.os, I.bare, ⟨I.base.keep, I.base.slot, fun b u q n hx => ?_, I.base.there, fun b xs q => ?_, fun b u xs q => ?_, fun b ps q => ?_⟩, I.loc, I.cell, ?_, fun x c q => ?_, fun p hp => ?_, fun b u q => ?_, I.len⟩
  · rw [upd_ne (fun z => by rw [z, y.new] at q; cases q)]
    exact I.base.free b u q n hx
  · rw [upd_ne (ne_of_none (I.base.tups b xs q) hn)]; exact I.base.tups b xs q
  · rw [upd_ne (ne_of_none (I.base.frzs b u xs q) hn)]; exact I.base.frzs b u xs q
  · obtain ⟨m, r⟩ := I.base.tbls b ps q
    exact ⟨m, by rw [upd_ne (ne_of_none r hn)]; exact r⟩
  · rw [upd_ne (Ne.symm y.loc)]; exact I.free
  · rw [upd_ne (y.cel x c q)]; exact I.freeC x c q
  · obtain ⟨a, b, c⟩ := I.pin p hp
    exact ⟨a, by rw [upd_ne (y.pin p hp)]; exact b, c⟩
  · by_cases z : b = e
    · subst z
      rw [upd_same] at q
      cases q
      exact ok
    · rw [upd_ne z] at q
      exact (I.hok b u q).stay (fun _ _ _ r => r) (fun c r => by rw [upd_ne (ne_of_none r hn)]; exact r) fun c xs r => by rw [upd_ne (ne_of_none r hn)]; exact r
/-- this frame has let the exception go: all stands as it was -/
theorem Inv_kept {e : Addr} {h' : Heap} (I : Inv X pins σ H s) (hn : H e = none) (y : Young X pins e) (k : Kept (frs X.stack) e s.heap h') : Inv X pins σ H { s with heap := h' } := by
  have nst : e ∉ frs X.stack := fun z => by
    rcases List.mem_cons.mp (I.stkSub e z) with q | q
    · exact y.loc q
    · exact y.out q
  obtain ⟨m, ⟨o, es, ep, ho, r⟩, _⟩ := id I.loc
  have up : ∀ b u, b ≠ e → s.heap.get? b = some u → ∃ sl, h'.get? b = some { u with slots := sl } := fun b u hb q => by
    by_cases z : b ∈ frs X.stack
    · exact k.slot b u z q
    · exact ⟨u.slots, k.keep b u z hb q⟩
  have nH : ∀ b u, H b = some u → b ∉ frs X.stack := fun b u q z => by rw [I.stkFree b z] at q; cases q
  have n0 : ∀ b u, X.s_0.heap.get? b = some u → b ≠ e := fun b u q z => by rw [z, y.new] at q; cases q
  have nl : ∀ b u, X.s_0.heap.get? b = some u → b ≠ X.env.locals := fun b u q => Nat.ne_of_lt (Nat.lt_of_lt_of_le (Heap.lt_size q) I.ok.above)
  have cl : ∀ x c v, X.env.cells.lookup x = some c → s.heap.IsCell c v → h'.IsCell c v := fun x c v q ⟨u, hu, hd⟩ => by
    obtain ⟨sl, z⟩ := up c u (y.cel x c q) hu
    exact ⟨_, z, hd⟩
  refine ⟨I.ok, I.os, I.bare, ⟨fun b u q n hb hx => ?_, fun b u q n hb hx => ?_, I.base.free, fun b u q hx => ?_, I.base.tups, I.base.frzs, I.base.tbls⟩, ?_, fun x c q => ?_, I.free, I.freeC, fun p hp => ?_, fun b u q => ?_, I.len⟩
  · exact k.keep b u (fun z => (List.mem_cons.mp (I.stkSub b z)).elim (nl b u q) hb) (n0 b u q) (I.base.keep b u q n hb hx)
  · obtain ⟨sl, z⟩ := I.base.slot b u q n hb hx
    obtain ⟨sl', z'⟩ := up b _ (n0 b u q) z
    exact ⟨sl', z'⟩
  · obtain ⟨u', z⟩ := I.base.there b u q hx
    obtain ⟨sl, z'⟩ := up b _ (n0 b u q) z
    exact ⟨_, z'⟩
  · obtain ⟨m', hm, hl⟩ := I.loc
    refine ⟨m', ?_, fun i x v e1 e2 e3 => ?_⟩
    · obtain ⟨o', es', ep', ho', r'⟩ := hm
      obtain ⟨sl, z⟩ := up _ o' (Ne.symm y.loc) ho'
      exact ⟨_, es', ep', z, r'⟩
    · obtain ⟨u, ru, l⟩ := hl i x v e1 e2 e3
      refine ⟨u, ru, ?_⟩
      rcases l with l | ⟨kk, c, ec, z⟩
      · exact .inl l
      · exact .inr ⟨kk, c, ec, cl x c _ ec z⟩
  · obtain ⟨v, z⟩ := I.cell x c q
    exact ⟨v, cl x c v q z⟩
  · obtain ⟨a1, a2, a3, a4, a5⟩ := I.pin p hp
    exact ⟨k.keep p.1 p.2 (fun z => (List.mem_cons.mp (I.stkSub p.1 z)).elim a3 a4) (y.pin p hp) a1, a2, a3, a4, a5⟩
  · refine (I.hok b u q).stay (fun c v hc r' => k.keep c v ?_ ?_ r') (fun _ z => z) fun _ _ z => z
    · rcases hc with z | z
      · rw [z]; exact nH b u q
      · exact nH c _ z
    · rcases hc with z | z
      · rw [z]; exact ne_of_none q hn
      · exact ne_of_none z hn
end
end L2.XC

set_option Elab.async false
set_option linter.all false
set_option maxRecDepth 100000
set_option maxHeartbeats 2000000
namespace L2.XC
open PySem PySem.Spec PyProof.Rows
/-! ### how an exception leaves a call -/
def CXF (P : Program) (w : World) : CXT := fun outer H s E x s' => ∃ e C dx H', x = .ref e ∧ s'.os = s.os ∧ AllBare s'.gens ∧ Un (frs outer) [] H H' s.heap s'.heap ∧ HOk P w H' s'.heap ∧
  Landed s'.heap e C dx ∧ s.heap.get? e = none ∧ H' e = none ∧ E (.ref C) (some dx) H'
/-- an exception that flies in this body reaches what is wished of exceptions -/
def Flies (X : Cx) (E : XK) : Prop := ∀ (pins : List (Addr × Obj)) (σ : St) (H : Hp) (s : Shared) (e C dx : Addr), Inv X pins σ H s → Fly s.heap e C dx → H e = none → Young X pins e → E (.ref C) (some dx) H → X.xe (.ref e) s
theorem flies_cx {P : Program} {w : World} {K : PySem.W.Frag} {mg : Str → Option Value} {base : Heap} {N : List Str} {qual : Str} {scope : Scope} {f : Addr} {cd : Value} {A : Around} {outer : List Env} {s : Shared} {H : Hp} {E : XK} :
    Flies (cxOf (CXF P w) P w K mg base N qual scope f cd A outer s H E) E := by
  intro pins σ H1 s1 e C dx I fl hn y q
  refine fly_leave (outer := outer) (L := s.heap.objs.size) I.ok.frames I.stack rfl fl fun h' ld k => ?_
  have I' := Inv_kept I hn y k
  exact ⟨e, C, dx, H1, rfl, I'.os, I'.bare, I'.base, I'.hok, ld, y.new, hn, q⟩
theorem passes_of {X : Cx} {E : XK} (hf : Flies X E) (hx : X.ex = []) : Passes (CXF X.prog X.w) X E := by
  rintro pins σ H s e s' I ⟨e', C, dx, H', rfl, os, bare, un, hok, ld, new, hn, q⟩
  exact hf pins σ H' s' e' C dx (I.call' os un hok bare (ch := []) fun b z => absurd z (by simp)) (.inr ld) hn (Inv_young I hx new) q
section
variable {P : Program} {w : World} {K : PySem.W.Frag} {mg : Str → Option Value} {base : Heap}
/-- a def that may raise -/
theorem okX {x qual : Str} {st : Stmt} {f : Addr} {fd : FuncData} {N ps : List Str} {k : Nat} {sp : Sp} (F : Fun K x qual st f fd) (S : FnScope N ps (defScope st)) (len : ∀ vs H Q E, sp vs H Q E → vs.length = ps.length)
    (hbody : ∀ (cdv : Value) (A : Around) (outer : List Env) (s : Shared) (H : Hp) (vs : List V) (Q : VK) (E : XK), Room k (A.deeper (envOfC qual (defScope st) s.heap.objs.size f cdv)) → sp vs H Q E →
      ∃ t, PSs (cxOf (CXF P w) P w K mg base N qual (defScope st) f cdv A outer s H E) (defBody st) t ∧ t { nx := fun _ H' => Q .non H', rt := Q } (start N vs) H) : FnOk P w K mg base (CXF P w) (k + 1) f fd ps sp := by
  obtain ⟨oc, od, kV, doc, pm, an, cdv, ct, osl, rfl, lk, hcd⟩ := F.ex
  exact fn_of lk hcd S len fun A outer s H vs Q E hr hsp => hbody cdv A outer s H vs Q E hr hsp
theorem passX {N : List Str} {qual : Str} {scope : Scope} {f : Addr} {cd : Value} {A : Around} {outer : List Env} {s : Shared} {H : Hp} {E : XK} :
    Passes (CXF P w) (cxOf (CXF P w) P w K mg base N qual scope f cd A outer s H E) E := passes_of flies_cx rfl
end
/-! ### an own error class with an __init__ -/
def keysOk (o : Obj) : Bool := match o.data with
  | .dict es _ => es.all fun e => match e.key with | .str _ _ => true | _ => false
  | _ => false
structure XCls (K : PySem.W.Frag) (C fI : Addr) : Prop where
  ex : ∃ (nm q : Str) (N : Addr) (bs : List Value) (sn : List Str) (sub : List Value) (ab : Bool) (col : Option Bool) (dd : Option Addr) (k0 k1 k2 k3 k5 : Option Value) (oN : Obj),
    K.lookup C = some (excClassObj nm q C N bs bmE true sn sub ab col dd k0 k1 k2 k3 k5 "Exception.__new__") ∧ K.lookup N = some oN ∧ keysOk oN = true ∧
    PySem.W.nsIn K N "__init__" = some (some (.ref fI)) ∧ PySem.W.nsIn K N "__setattr__" = some none ∧ PySem.W.nsIn K N "__getattribute__" = some none ∧ PySem.W.nsIn K N "__getattr__" = some none ∧
    PySem.W.nsIn K N "kind" = some none ∧ PySem.W.nsIn K N "place" = some none
  fn : PySem.W.isFn K (.ref fI) = true
  kp : PySem.W.keepIn K (.ref C) = true
theorem ns_some_of {K : PySem.W.Frag} {h : Heap} {N : Addr} {m : Str → Option Value} {n : Str} {v : Value} (X : K.In h) (G : h.Ns N m) (e : PySem.W.nsIn K N n = some (some v)) : m n = some v := by
  obtain ⟨o, es, ep, ho, hd, _, hf⟩ := G
  unfold PySem.W.nsIn at e
  split at e
  · rename_i c d es' n' sl q
    have z := X _ _ q
    rw [ho] at z
    cases z
    cases hd
    split at e
    · rename_i en he
      cases e
      rw [← hf]
      unfold nsFind findBy
      rw [← Array.find?_toList, he]
      rfl
    · split at e <;> cases e
  · cases e
structure XAt (h : Heap) (C fI : Addr) (N : Addr) (mN : Str → Option Value) : Prop where
  obj : ∃ (nm q : Str) (bs : List Value) (sn : List Str) (sub : List Value) (ab : Bool) (col : Option Bool) (dd : Option Addr) (k0 k1 k2 k3 k5 : Option Value),
    h.get? C = some (excClassObj nm q C N bs bmE true sn sub ab col dd k0 k1 k2 k3 k5 "Exception.__new__")
  ns : h.Ns N mN
  ini : mN "__init__" = some (.ref fI)
  sa : mN "__setattr__" = none
  ga : mN "__getattribute__" = none
  gr : mN "__getattr__" = none
  kd : mN "kind" = none
  pl : mN "place" = none
theorem XCls.at_ {K : PySem.W.Frag} {C fI : Addr} {h : Heap} (x : XCls K C fI) (KX : K.In h) : ∃ N mN, XAt h C fI N mN := by
  obtain ⟨nm, q, N, bs, sn, sub, ab, col, dd, k0, k1, k2, k3, k5, oN, l1, l2, ko, i1, i2, i3, i4, i5, i6⟩ := x.ex
  have hn : h.isNs N = true := by
    unfold Heap.isNs
    rw [KX _ _ l2]
    unfold keysOk at ko
    exact ko
  have G : h.Ns N (h.nsMap N) := .of_isNs hn
  exact ⟨N, h.nsMap N, ⟨nm, q, bs, sn, sub, ab, col, dd, k0, k1, k2, k3, k5, KX _ _ l1⟩, G, ns_some_of KX G i1, PySem.W.ns_none_of KX G i2, PySem.W.ns_none_of KX G i3, PySem.W.ns_none_of KX G i4, PySem.W.ns_none_of KX G i5, PySem.W.ns_none_of KX G i6⟩
theorem lk_kind : typeLookup (.type "Exception") "kind" = pure none := by rw [typeLookup_type, builtinLookup_eq_fast]; kernel_rfl
theorem lk_place : typeLookup (.type "Exception") "place" = pure none := by rw [typeLookup_type, builtinLookup_eq_fast]; kernel_rfl
/-- the attributes that are stored -/
def Fld (f : Str) : Prop := f = "kind" ∨ f = "place"
theorem Fld.lk {f : Str} (h : Fld f) : typeLookup (.type "Exception") f = pure none := by
  rcases h with rfl | rfl
  · exact lk_kind
  · exact lk_place
theorem Fld.no {f : Str} (h : Fld f) {hp : Heap} {C fI N : Addr} {mN : Str → Option Value} (x : XAt hp C fI N mN) : mN f = none := by
  rcases h with rfl | rfl
  · exact x.kd
  · exact x.pl
section
variable {X : Cx} {pins : List (Addr × Obj)} {σ : St} {H : Hp} {s : Shared} {e C fI dx : Addr} {f : Str} {v : V} {u : Value} {E : Value → Shared → Prop} {A : Around}
theorem store_first {Q : Unit → Shared → Prop} (I : Inv X pins σ H s) (c : XCls X.K C fI) (hf : Fld f) (he : H e = some (XE e C none)) (rv : RelV v u)
    (h : ∀ dx s', H dx = none → dx ≠ e → Inv X pins σ (upd (upd H dx (XD dx [(f, v)])) e (XE e C (some dx))) s' → Q () s') : wpAny (model X.prog X.w) A (setAttr (.ref e) f u) Q E s := by
  obtain ⟨N, mN, x⟩ := c.at_ I.kIn
  obtain ⟨nm, q, bs, sn, sub, ab, col, dd, k0, k1, k2, k3, k5, hC⟩ := x.obj
  obtain ⟨o, vs, ho, hc, hd, hdat, h1⟩ := xe_of I.hok he
  have hnc : ∀ c, o.data ≠ .cls c := fun c z => by rw [hdat] at z; cases z
  obtain ⟨hh, gg, dr, tt, oo⟩ := s
  refine put_attr PySem.F.store_Exception hC x.ns x.sa ho hc fun A R tk t' hR => ?_
  refine put_call PySem.F.store_Exception hC ho hc fun A T E' hT => ?_
  refine put_entry hC x.ns (hf.no x) hf.lk ho hc hd hnc fun h' tk' e1 e2 e3 => hT _ (hR _ ?_)
  have hfr : H hh.objs.size = none := I.hok.fresh (Nat.le_refl _)
  have nes : hh.objs.size ≠ e := fun z => by rw [z, he] at hfr; cases hfr
  refine h hh.objs.size _ hfr nes ?_
  have nE : ∀ b w, H b = some w → (∀ φ, w ≠ .ext φ) → b ≠ e := fun b w q nw => ne_of q he (nw _)
  have nS : ∀ b w, H b = some w → b ≠ hh.objs.size := fun b w q => ne_of_none q hfr
  have at_ : ∀ b w, H b = some w → (∀ φ, w ≠ .ext φ) → upd (upd H hh.objs.size (XD hh.objs.size [(f, v)])) e (XE e C (some hh.objs.size)) b = some w := fun b w q nw => by
    rw [upd_ne (nE b w q nw), upd_ne (nS b w q)]; exact q
  have un : Un X.fs [] H (upd (upd H hh.objs.size (XD hh.objs.size [(f, v)])) e (XE e C (some hh.objs.size))) hh h' := by
    refine ⟨fun b w q n _ _ => e3 b w (fun z => by rw [z, he] at n; cases n) q, fun b w q n _ _ => ⟨w.slots, e3 b w (fun z => by rw [z, he] at n; cases n) q⟩, fun b w q n _ => ?_, fun b w q _ => ?_,
      fun b xs q => at_ b _ q (fun _ z => nomatch z), fun b w xs q => at_ b _ q (fun _ z => nomatch z), fun b ps q => ⟨#[], by rw [at_ b _ q (fun _ z => nomatch z)]; simp⟩⟩
    · rw [upd_ne (fun z => by rw [z, he] at n; cases n), upd_ne (Nat.ne_of_lt (Heap.lt_size q))]; exact n
    · by_cases z : b = e
      · exact ⟨_, by rw [z]; exact e1⟩
      · exact ⟨w, e3 b w z q⟩
  refine I.un (h' := h') un fun b w q => ?_
  by_cases z : b = e
  · subst z
    rw [upd_same] at q
    cases q
    exact xe_ok e1 hc rfl hdat h1
  · rw [upd_ne z] at q
    by_cases z2 : b = hh.objs.size
    · subst z2
      rw [upd_same] at q
      cases q
      refine xd_ok e2 (fun g => ?_) fun g hg => ?_
      · show RelO (List.lookup g [(f, v)]) (if g = f then some u else none)
        by_cases y : g = f
        · have hb : (g == f) = true := beq_iff_eq.mpr y
          simp only [List.lookup, hb, if_pos y]
          exact rv
        · have hb : (g == f) = false := beq_eq_false_iff_ne.mpr y
          simp only [List.lookup, hb, if_neg y]
          trivial
      · by_cases y : g = f
        · simp [y]
        · exact absurd (show (if g = f then some u else none) = none from if_neg y) hg
    · rw [upd_ne z2] at q
      refine (I.hok b w q).stay (fun b' v' hc' r => e3 b' v' ?_ r) (fun b' r => at_ b' _ r (fun _ z => nomatch z)) fun b' xs r => at_ b' _ r (fun _ z => nomatch z)
      rcases hc' with y | y
      · rw [y]; exact z
      · exact nE b' _ y (fun _ z => nomatch z)
theorem store_next {Q : Unit → Shared → Prop} {fs : List (Str × V)} (I : Inv X pins σ H s) (c : XCls X.K C fI) (hf : Fld f) (he : H e = some (XE e C (some dx))) (hd : H dx = some (XD dx fs)) (hne : dx ≠ e) (hl : fs.length ≤ 1000) (rv : RelV v u)
    (h : ∀ s', Inv X pins σ (upd H dx (XD dx (putF f v fs))) s' → Q () s') : wpAny (model X.prog X.w) A (setAttr (.ref e) f u) Q E s := by
  obtain ⟨N, mN, x⟩ := c.at_ I.kIn
  obtain ⟨nm, q, bs, sn, sub, ab, col, dd, k0, k1, k2, k3, k5, hC⟩ := x.obj
  obtain ⟨o, vs, ho, hc, hdo, hdat, h1⟩ := xe_of I.hok he
  obtain ⟨mA, n1, rl, wi⟩ := xd_of I.hok hd
  obtain ⟨hh, gg, dr, tt, oo⟩ := s
  refine put_attr PySem.F.store_Exception hC x.ns x.sa ho hc fun A R tk t' hR => ?_
  refine put_call PySem.F.store_Exception hC ho hc fun A T E' hT => ?_
  refine put_entry2 hC x.ns (hf.no x) hf.lk ho hc hdo hne n1 wi (by rw [List.length_map]; exact hl) fun h' tk' e1 e3 => hT _ (hR _ (h _ ?_))
  have hex : ∃ z, h'.get? dx = some z := let ⟨z, _, _, r, _⟩ := e1; ⟨z, r⟩
  refine I.write (h' := h') (x := dx) (e := dx) (by rw [hd]; exact True.intro) (.inl rfl) (fun b w hb r => e3 b w hb r) hex ?_
  refine xd_ok e1 (fun g => ?_) fun g hg => ?_
  · show RelO ((putF f v fs).lookup g) (if g = f then some u else mA g)
    rw [lookup_putF]
    by_cases y : g = f
    · rw [if_pos y, if_pos y]; exact rv
    · rw [if_neg y, if_neg y]; exact rl g
  · by_cases y : g = f
    · rw [y]; exact (keys_putF f v fs).1
    · refine (keys_putF f v fs).2 g (wi g fun z => hg ?_)
      show (if g = f then some u else mA g) = none
      rw [if_neg y]; exact z
theorem load_of {Q : Value → Shared → Prop} {b : Bool} {fs : List (Str × V)} (I : Inv X pins σ H s) (c : XCls X.K C fI) (hf : Fld f) (he : H e = some (XL e C dx)) (hd : H dx = some (XD dx fs)) (hl : fs.lookup f = some v)
    (h : ∀ u s', Inv X pins σ H s' → RelV v u → Q u s') : wpAny (model X.prog X.w) A (getAttr (.ref e) f b) Q E s := by
  obtain ⟨N, mN, x⟩ := c.at_ I.kIn
  obtain ⟨nm, q, bs, sn, sub, ab, col, dd, k0, k1, k2, k3, k5, hC⟩ := x.obj
  obtain ⟨o, vs, ho, hc, hdo, hdat⟩ := xl_of I.hok he
  obtain ⟨mA, n1, rl, wi⟩ := xd_of I.hok hd
  have hnc : ∀ c, o.data ≠ .cls c := fun c z => by rw [hdat] at z; cases z
  obtain ⟨u, hu, ru⟩ := RelO.some_of (v := v) (o := mA f) (by rw [← hl]; exact rl f)
  obtain ⟨hh, gg, dr, tt, oo⟩ := s
  exact got_attr hC x.ns x.ga x.gr (hf.no x) hf.lk ho hc hnc hdo n1 hu (PySem.W.handedOut_of (handed_of ru)) (h u _ (I.tok _) ru)
end
end L2.XC

set_option Elab.async false
set_option linter.all false
set_option maxRecDepth 100000
set_option maxHeartbeats 2000000
namespace L2.XC
open PySem PySem.Spec PyProof.Rows
section
variable {M : Model} {A : Around} {E : Value → Shared → Prop} {env : Env}
variable {nm q : Str} {C N : Addr} {bs : List Value} {sn : List Str} {sub : List Value} {ab : Bool} {col : Option Bool} {dd : Option Addr} {k0 k1 k2 k3 k5 : Option Value} {ni : String}
theorem raise_of {s : Shared} {x : Sem Value} {Q : Flow → Shared → Prop} (hh : A.handled = none)
    (h : wpAny M A x (fun v s1 => ∃ (e : Addr) (nm q : Str) (N : Addr) (bs : List Value) (sn : List Str) (sub : List Value) (ab : Bool) (col : Option Bool) (dd : Option Addr) (k0 k1 k2 k3 k5 : Option Value) (o : Obj) (vs : Array Value),
      v = .ref e ∧ s1.heap.get? C = some (excClassObj nm q C N bs bmE true sn sub ab col dd k0 k1 k2 k3 k5 "Exception.__new__") ∧
      s1.heap.get? e = some o ∧ o.cls = .ref C ∧ o.data = .fields vs ∧ vs[1]? = some .none ∧ E (.ref e) s1) E s) :
    wpAny M A (raiseStmt env (some x) none) Q E s := by
  have hcB : ∀ C : Addr, (Value.ref C :: bmE).contains (.type "BaseException") = true := fun C => by rw [List.contains_cons, show bmE.contains (.type "BaseException") = true from by decide +kernel, Bool.or_true]
  unfold raiseStmt
  refine wpAny_bind (wpAny_mono h (fun v s1 h1 => ?_) fun _ _ z => z)
  obtain ⟨e, nm, q, N, bs, sn, sub, ab, col, dd, k0, k1, k2, k3, k5, o, vs, rfl, hC, he, hc, hd, hv, hE⟩ := h1
  obtain ⟨hp, g, d, tk, os⟩ := s1
  repeat (first
    | (with_reducible refine wpAny_loadPart_at he ?_; rw [hc])
    | (with_reducible refine wpAny_loadPart_at he ?_)
    | with_reducible refine wpAny_loadPart_at hC ?_
    | (with_reducible refine wpAny_isSubtype_exc hC ?_; rw [hcB])
    | with_reducible refine wpAny_field he hd hv ?_
    | wp_step)
  exact wpAny_raiseNew_none hh hE
end

/-! ### stores into an exception; its attributes read -/
section
variable {X : Cx} {C fI : Addr} {o value e : Expr} {f : Str} {pos pos' : Pos} {ta tv : TE}
def sX1 (C : Addr) (ta tv : TE) (f : Str) : TS := fun D σ H => tv σ H fun y H1 => ta σ H1 fun x H2 => ∃ e, x = .ref e ∧ H2 e = some (XE e C none) ∧ ∀ dx, H2 dx = none → dx ≠ e → D.nx σ (upd (upd H2 dx (XD dx [(f, y)])) e (XE e C (some dx)))
def sX2 (C : Addr) (ta tv : TE) (f : Str) : TS := fun D σ H => tv σ H fun y H1 => ta σ H1 fun x H2 => ∃ e dx fs, x = .ref e ∧ H2 e = some (XE e C (some dx)) ∧ H2 dx = some (XD dx fs) ∧ dx ≠ e ∧ fs.length ≤ 1000 ∧ D.nx σ (upd H2 dx (XD dx (putF f y fs)))
def tXf (C : Addr) (ta : TE) (f : Str) : TE := fun σ H Q => ta σ H fun x H1 => ∃ e dx fs v, x = .ref e ∧ H1 e = some (XL e C dx) ∧ H1 dx = some (XD dx fs) ∧ fs.lookup f = some v ∧ Q v H1
theorem ps_x1 (c : XCls X.K C fI) (hf : Fld f) (ha : PE X o ta) (hv : PE X value tv) (hs : swapsWith value (some (.Attribute o f pos')) pos.line X.env = pure false) : PS X (.Assign [.Attribute o f pos'] value pos) (sX1 C ta tv f) := by
  intro pins s σ H D I h
  refine plainObj_wpAny_Assign_Attribute (thn (hv pins s σ H _ I h) fun u s1 ⟨y, H1, I1, ry, q⟩ => thn (ha pins s1 σ H1 _ I1 q) fun ov s2 ⟨x, H2, I2, rx, a, ex, ea, q2⟩ => ?_) hs
  subst ex
  obtain rfl : ov = Value.ref a := rx
  exact store_first I2 c hf ea ry fun dx s3 n ne I3 => ⟨σ, _, I3, q2 dx n ne⟩
theorem ps_x2 (c : XCls X.K C fI) (hf : Fld f) (ha : PE X o ta) (hv : PE X value tv) (hs : swapsWith value (some (.Attribute o f pos')) pos.line X.env = pure false) : PS X (.Assign [.Attribute o f pos'] value pos) (sX2 C ta tv f) := by
  intro pins s σ H D I h
  refine plainObj_wpAny_Assign_Attribute (thn (hv pins s σ H _ I h) fun u s1 ⟨y, H1, I1, ry, q⟩ => thn (ha pins s1 σ H1 _ I1 q) fun ov s2 ⟨x, H2, I2, rx, a, dx, fs, ex, ea, ed, ne, l, q2⟩ => ?_) hs
  subst ex
  obtain rfl : ov = Value.ref a := rx
  exact store_next I2 c hf ea ed ne l ry fun s3 I3 => ⟨σ, _, I3, q2⟩
theorem pe_xf (c : XCls X.K C fI) (hf : Fld f) (he : PE X e ta) (hb : attributeBase e f X.env (eval e X.env) = eval e X.env) : PE X (.Attribute e f pos) (tXf C ta f) := by
  intro pins s σ H Q I h
  refine attr_of hb (thn (he pins s σ H _ I h) fun u s1 ⟨x, H1, I1, rx, a, dx, fs, v, ex, ea, ed, l, q⟩ => ?_)
  subst ex
  obtain rfl : u = Value.ref a := rx
  exact load_of I1 c hf ea ed l fun u' s2 I2 ru => ⟨v, H1, I2, ru, q⟩
end
/-! ### its __init__ -/
/-- an error's kind and place -/
def kp (k p : V) : List (Str × V) := [("kind", k), ("place", p)]
def spXI (C : Addr) : Sp := fun vs H Q _ => ∃ (e : Addr) (k p : V), vs = [.ref e, k, p] ∧ H e = some (XE e C none) ∧ ∀ dx H', dx ≠ e → H' e = some (XE e C (some dx)) → H' dx = some (XD dx (kp k p)) → Q .non H'
theorem tracked_some {P : Program} {w : World} {H : Hp} {h : Heap} {a : Addr} {o : HO} (x : ObjOk P w H h a o) : ∃ ob, h.get? a = some ob := by
  cases o with
  | lst xs => obtain ⟨_, _, _, _, e⟩ := x; exact ⟨_, e⟩
  | tup xs => obtain ⟨_, _, _, _, e, _⟩ := x; exact ⟨_, e⟩
  | dK kvs => obtain ⟨_, _, _, _, o, _, _, e, _⟩ := x; exact ⟨_, e⟩
  | dT kvs => obtain ⟨_, _, _, _, o, _, _, e, _⟩ := x; exact ⟨_, e⟩
  | set S n => obtain ⟨o, _, _, _, e, _⟩ := x; exact ⟨_, e⟩
  | ins C dx fs => obtain ⟨_, _, _, e, _⟩ := x; exact ⟨_, e⟩
  | own y => obtain ⟨_, e⟩ := x; exact ⟨_, e⟩
  | xd fs => obtain ⟨_, ⟨_, _, _, e, _⟩, _⟩ := x; exact ⟨_, e⟩
  | rng lo hi => obtain ⟨_, _, _, e⟩ := x; exact ⟨_, e⟩
  | frz ob u => obtain ⟨e, _⟩ := x; exact ⟨_, e⟩
  | tbl ps => exact ⟨_, x⟩
  | met f y => exact ⟨_, x⟩
  | ext φ => obtain ⟨_, e, _⟩ := x; exact e
/-! ### raise Fault(k, p) -/
/-- the error that is wanted at a raise -/
def Err (E : XK) (C : Addr) (k p : V) : Prop := ∀ H' dx, H' dx = some (XD dx (kp k p)) → E (.ref C) (some dx) H'
def sRaise (C : Addr) (E : XK) (t : TA) : TS := fun _ σ H => t σ H fun vs _ => ∃ k p, vs = [k, p] ∧ Err E C k p
section
variable {X : Cx} {C fI : Addr} {fd : FuncData} {x : Str} {np cpos pos : Pos} {a b : Expr} {E : XK} {t : TA} {k : Nat}
theorem ps_raise (c : XCls X.K C fI) (F : FnOk X.prog X.w X.K X.mg X.base CX0 k fI fd ["self", "kind", "place"] (spXI C)) (hbi : Binds X.K fd ["self", "kind", "place"] []) (hr : Room (k + 1) X.A) (hfl : Flies X E) (hxx : X.ex = []) (hg : Gl X x) (hm : X.mg x = some (.ref C))
    (ha : PA X [a, b] t) (hdb : (x == ("__debug__" : Str)) = false := by decide) (hst : starEach [a, b] X.env = (false, eval a X.env) :: starEach [b] X.env := by rfl) (hpl : (backTo cpos (starEach [b] X.env)).any (·.1) = false := by rfl) :
    PS X (.Raise (some (.Call (.Name x np) [a, b] [] cpos)) none pos) (sRaise C E t) := by
  intro pins s σ H D I h
  rw [arm_exec_Raise]
  refine wpAny_bind (wpAny_standAt (raise_of (C := C) hr.hd (wpAny_bind (m := eval (.Call (.Name x np) [a, b] [] cpos) X.env) ?_)))
  refine wpAny_Call_Name_kw (ld_glob I hg hm ?_ hdb)
  refine PySem.W.callWith_K (h₀ := X.base) I.ok.mod.kin c.kp (thn (ha cpos pins s σ H _ I h) fun us s1 ⟨vs, H1, I1, r, kv, pv, ev, q⟩ => ⟨I1.kIn, ?_⟩) hst hpl
  subst ev
  cases r with
  | @cons _ u1 _ r1 rv1 rr1 =>
  cases rr1 with
  | @cons _ u2 _ r2 rv2 rr2 =>
  cases rr2
  obtain ⟨N, mN, xa⟩ := c.at_ I1.kIn
  obtain ⟨nm, q', bs, sn, sub, ab, col, dd, k0, k1, k2, k3, k5, hC⟩ := xa.obj
  have fn := c.fn
  unfold PySem.W.isFn at fn
  have fn2 := beq_iff_eq.mp fn
  unfold PySem.W.typeIn at fn2
  obtain ⟨oI, hoI, hcI⟩ := Option.map_eq_some_iff.mp fn2
  obtain ⟨hh, gg, dr, tt, oo⟩ := s1
  refine wpAny_call_exc_init PySem.F.excBase_Exception hC xa.ns xa.ini (I1.kIn _ _ hoI) hcI (fun h' e md => ?_) (by show 2 ≤ sizeLine; decide)
  obtain ⟨tu, e1, e2, e3⟩ := md.there
  have he : H1 e = none := by
    cases z : H1 e with
    | none => rfl
    | some w =>
      obtain ⟨oz, hz⟩ := tracked_some (I1.hok e w z)
      rw [md.new] at hz
      cases hz
  have y : Young X pins e := Inv_young I1 hxx md.new
  have I2 : Inv X pins σ (upd H1 e (XE e C none)) ⟨h', gg, dr, tt, oo⟩ :=
    Inv_track (I1.kept (h' := h') (t' := tt) md.keeps) y he (xe_ok e1 rfl rfl rfl rfl)
  have hsp : spXI C [.ref e, kv, pv] (upd H1 e (XE e C none)) (fun v H' => v = .non ∧ ∃ dx, dx ≠ e ∧ H' e = some (XE e C (some dx)) ∧ H' dx = some (XD dx (kp kv pv))) E0 :=
    ⟨e, kv, pv, rfl, upd_same, fun dx H' z1 z2 z3 => ⟨rfl, dx, z1, z2, z3⟩⟩
  refine wpAny_call (codeAny_mono (F.run _ X.stack _ _ ⟨[.ref e, u1, u2], []⟩ [.ref e, u1, u2] [.ref e, kv, pv] _ _ (hr.make C [u1, u2] []) (I2.env0.make C [u1, u2] []) ?_ (.cons rfl (.cons rv1 (.cons rv2 .nil))) hsp) fun r s' hq => ?_)
  · exact hbi _ [.ref e, u1, u2] I2.kIn rfl
  · cases r with
    | error x => exact hq.elim
    | ok fl =>
      cases fl with
      | next => exact False.elim hq
      | brk => exact False.elim hq
      | cont => exact False.elim hq
      | ret u =>
        obtain ⟨v, H', I3, rv, ev, dx, z1, z2, z3⟩ := I2.after hq
        subst ev
        refine ⟨rv, wpAny_bind (wpAny_standAt (wpAny_pure ?_))⟩
        obtain ⟨N3, mN3, xa3⟩ := c.at_ I3.kIn
        obtain ⟨nm3, q3, bs3, sn3, sub3, ab3, col3, dd3, j0, j1, j2, j3, j5, hC3⟩ := xa3.obj
        obtain ⟨o, vs, ho, hc, hd, hdat, h1⟩ := xe_of I3.hok z2
        refine ⟨e, nm3, q3, N3, bs3, sn3, sub3, ab3, col3, dd3, j0, j1, j2, j3, j5, o, vs, rfl, hC3, ho, hc, hdat, h1, ?_⟩
        exact hfl pins σ (untr H' e) s' e C dx (Inv_untr I3 z2) (.inl ⟨o, vs, ho, hc, hd, hdat, h1⟩) untr_same y (q _ dx (by rw [untr_ne z1]; exact z3))
end
end L2.XC

set_option Elab.async false
set_option linter.all false
set_option maxRecDepth 100000
set_option maxHeartbeats 2000000
namespace L2.XC
open PySem PySem.Spec PyProof.Rows
/-! ### try .. except -/
/-- within an except suite -/
abbrev Xm (X : Cx) (v : Value) (xe : Value → Shared → Prop) : Cx := { X with A := X.A.mark (some v), calm := false, xe := xe }
section
variable {X : Cx} {pins : List (Addr × Obj)} {σ : St} {H : Hp} {s : Shared} {v : Value} {xe : Value → Shared → Prop}
theorem ok_in (ok : X.Ok) : (Xm X v xe).Ok :=
  ⟨ok.mod, ok.kind, ok.glob, ok.blt, ok.above, ok.inj, ok.has, ok.cab, fun z => Bool.noConfusion z, ok.frames, ok.stk, ok.exf, ok.bs, ok.bsz, ok.noex, ok.exfs, ok.funs, ok.frf⟩
theorem inv_in (I : Inv X pins σ H s) : Inv (Xm X v xe) pins σ H s := ⟨ok_in I.ok, I.os, I.bare, I.base, I.loc, I.cell, I.free, I.freeC, I.pin, I.hok, I.len⟩
theorem inv_out (ok : X.Ok) (I : Inv (Xm X v xe) pins σ H s) : Inv X pins σ H s := ⟨ok, I.os, I.bare, I.base, I.loc, I.cell, I.free, I.freeC, I.pin, I.hok, I.len⟩
/-- no name is known -/
def noneOf (X : Cx) : St := List.replicate X.N.length none
theorem inv_forget (I : Inv X pins σ H s) : Inv X pins (noneOf X) H s := I.weak (by unfold noneOf; rw [List.length_replicate, I.len]) fun i v e => by
  unfold noneOf at e
  rw [List.getElem?_replicate] at e
  split at e <;> cases e
theorem inv_locals {h' : Heap} {m' : Str → Option Value} {t' : Nat} (I : Inv X pins σ H s) (hn : h'.Ns X.env.locals m') (hs : Heap.SameBut X.env.locals s.heap h') : Inv X pins (noneOf X) H { s with heap := h', toks := t' } := by
  have nl : ∀ b o, X.s_0.heap.get? b = some o → b ≠ X.env.locals := fun b o q => Nat.ne_of_lt (Nat.lt_of_lt_of_le (Heap.lt_size q) I.ok.above)
  refine ⟨I.ok, I.os, I.bare, ⟨fun b o e n hb hx => ?_, fun b o e n hb hx => ?_, I.base.free, fun b o e hx => ?_, I.base.tups, I.base.frzs, I.base.tbls⟩, ⟨m', hn, fun j y v' e1 e2 e3 => ?_⟩, fun y c e => ?_, I.free, I.freeC, fun p hp => ?_, fun b o e => ?_, by unfold noneOf; rw [List.length_replicate]⟩
  · exact (hs.2 b (nl b o e)).trans (I.base.keep b o e n hb hx)
  · obtain ⟨sl, q⟩ := I.base.slot b o e n hb hx
    exact ⟨sl, (hs.2 b (nl b o e)).trans q⟩
  · obtain ⟨o', q⟩ := I.base.there b o e hx
    exact ⟨o', (hs.2 b (nl b o e)).trans q⟩
  · unfold noneOf at e2
    rw [List.getElem?_replicate] at e2
    split at e2 <;> cases e2
  · obtain ⟨w', z⟩ := I.cell y c e
    exact ⟨w', z.sameBut hs (I.cne y c e)⟩
  · obtain ⟨e, n, ne, nf, d⟩ := I.pin p hp
    exact ⟨(hs.2 p.1 ne).trans e, n, ne, nf, d⟩
  · refine (I.hok b o e).stay (fun c w' hc q => (hs.2 c ?_).trans q) (fun _ q => q) fun _ _ q => q
    rintro rfl
    rcases hc with z | hc
    · rw [← z, I.free] at e; cases e
    · rw [I.free] at hc; cases hc
end
/-- within a try's body: the pins are borne by every state -/
abbrev Xt (X : Cx) (pn : List (Addr × Obj)) (xe : Value → Shared → Prop) : Cx := { X with pn := pn, xe := xe }
section
variable {X : Cx} {pins pins' : List (Addr × Obj)} {σ : St} {H : Hp} {s : Shared} {xe : Value → Shared → Prop}
theorem ok_t (ok : X.Ok) {pn : List (Addr × Obj)} : (Xt X pn xe).Ok :=
  ⟨ok.mod, ok.kind, ok.glob, ok.blt, ok.above, ok.inj, ok.has, ok.cab, ok.hd, ok.frames, ok.stk, ok.exf, ok.bs, ok.bsz, ok.noex, ok.exfs, ok.funs, ok.frf⟩
theorem ok_u {pn : List (Addr × Obj)} (ok : (Xt X pn xe).Ok) : X.Ok :=
  ⟨ok.mod, ok.kind, ok.glob, ok.blt, ok.above, ok.inj, ok.has, ok.cab, ok.hd, ok.frames, ok.stk, ok.exf, ok.bs, ok.bsz, ok.noex, ok.exfs, ok.funs, ok.frf⟩
theorem inv_fore (I : Inv X pins σ H s) : Inv (Xt X (X.pn ++ pins) xe) [] σ H s :=
  ⟨ok_t I.ok, I.os, I.bare, I.base, I.loc, I.cell, I.free, I.freeC, fun p hp => I.pin p (by simpa using hp), I.hok, I.len⟩
theorem inv_back (I : Inv (Xt X (X.pn ++ pins) xe) pins' σ H s) : Inv X pins σ H s :=
  ⟨ok_u I.ok, I.os, I.bare, I.base, I.loc, I.cell, I.free, I.freeC, fun p hp => I.pin p (List.mem_append_left _ hp), I.hok, I.len⟩
theorem young_back {e : Addr} (y : Young (Xt X (X.pn ++ pins) xe) pins' e) : Young X pins e := ⟨y.new, y.loc, y.cel, fun p hp => y.pin p (List.mem_append_left _ hp), y.out⟩
theorem body_end {D : Ends} {f : Flow} (ok : X.Ok) (h : SP (Xt X (X.pn ++ pins) xe) pins' D f s) : SP X pins D f s := by
  cases f with
  | next => obtain ⟨σ', H', I, q⟩ := h; exact ⟨σ', H', inv_back I, q⟩
  | brk => obtain ⟨σ', H', I, q⟩ := h; exact ⟨σ', H', inv_back I, q⟩
  | cont => obtain ⟨σ', H', I, q⟩ := h; exact ⟨σ', H', inv_back I, q⟩
  | ret u => obtain ⟨v, σ', H', I, r, q⟩ := h; exact ⟨v, σ', H', inv_back I, r, q⟩
end
/-- what is wished of an exception within the try's body -/
def txe (X : Cx) (pins : List (Addr × Obj)) (D : Ends) (hs : List ExceptHandler) : Value → Shared → Prop := fun e s1 =>
  wpAny (model X.prog X.w) X.A (noteFrame e X.env) (fun _ s2 => wpAny (model X.prog X.w) X.A (setFlight e none) (fun _ s3 => wpAny (model X.prog X.w) X.A (handleBy e X.env hs) (SP X pins D) X.xe s3) X.xe s2) X.xe s1
/-- the ends of a suite that returns -/
def Rt (D : Ends) : Ends := { nx := fun _ _ => False, rt := D.rt }
def wAs (X : Cx) (C : Addr) (i : Nat) (ts : TS) (D : Ends) : XK := fun c od H' => c = .ref C ∧ ∃ dx, od = some dx ∧ ∀ e, H' e = none → ts (Rt D) ((noneOf X).set i (some (.ref e))) (upd H' e (XL e C dx))
def tTryAs (X : Cx) (C : Addr) (i : Nat) (tb : XK → TS) (ts : TS) : TS := fun D σ H => tb (wAs X C i ts D) D σ H
section
variable {X : Cx} {C fI : Addr} {x n : Str} {np hpos pos : Pos} {body : List Stmt} {b0 : Stmt} {suite : List Stmt} {tb : XK → TS} {ts : TS} {i : Nat}
/-- the clause's test -/
theorem test_own {e dx : Addr} {pins : List (Addr × Obj)} {σ : St} {H : Hp} {s : Shared} {R : Result → Shared → Prop} (c : XCls X.K C fI) (hg : Gl X x) (hm : X.mg x = some (.ref C)) (hdb : (x == ("__debug__" : Str)) = false)
    (I : Inv X pins σ H s) (ld : Landed s.heap e C dx) (h : R (.ok .brk) s) : codeAny (model X.prog X.w) (X.A.mark (some (.ref e))) (.handlers (.ref e) [.ExceptHandler (some (.Name x np)) none [] hpos] X.env) R s := by
  refine codeAny_handlers_test (ld_glob (X := Xm X (.ref e) fun _ _ => False) (inv_in I) hg hm ?_ hdb)
  obtain ⟨N, mN, xa⟩ := c.at_ I.kIn
  obtain ⟨nm, q', bs, sn, sub, ab, col, dd, k0, k1, k2, k3, k5, hC⟩ := xa.obj
  obtain ⟨o, vs, T, oT, tss, he, hc, hdx, hd, h1, hTe, hT, hdT, h3⟩ := ld
  obtain ⟨hh, gg, dr, tt, oo⟩ := s
  exact wpAny_excMatches_sub_self hC he hc (by decide +kernel) h
theorem flies_as {D : Ends} {pins : List (Addr × Obj)} (c : XCls X.K C fI) (hg : Gl X x) (hm : X.mg x = some (.ref C)) (hdb : (x == ("__debug__" : Str)) = false) (hf : X.env.frame = some X.env.locals) (hst : ∃ outer, X.stack = X.env :: outer)
    (hN : X.N.Nodup) (hi : X.N[i]? = some n) (hl : X.env.scope.names.lookup n = some .local)
    (hs : ∀ v, PSs (Xm X v fun _ _ => False) (b0 :: suite) ts) : Flies (Xt X (X.pn ++ pins) (txe X pins D [.ExceptHandler (some (.Name x np)) (some n) (b0 :: suite) hpos])) (wAs X C i ts D) := by
  intro pins' σ H s e C' dx I0 fl hn y q
  obtain ⟨ec, dx', ed, q⟩ := q
  cases ec
  cases ed
  have I := inv_back I0
  obtain ⟨outer, hst⟩ := hst
  have hfr : X.A.frames = some (X.env :: outer) := by rw [← hst]; exact I.ok.frames
  have hfun : s.heap.FunFrames X.base (X.env :: outer) := by rw [← hst]; exact I.stack
  refine fly_land hfr hfun hf fl fun h' ld k => ?_
  rw [← hst] at k
  have y' := young_back y
  have I1 : Inv X pins (noneOf X) H { s with heap := h' } := inv_forget (Inv_kept I hn y' k)
  refine wpAny_handleBy_cons (test_own c hg hm hdb I1 ld ?_) (by intro z; cases z)
  refine codeAny_handlers_suite_as (landed_again ld ?_)
  obtain ⟨o, vs, T, oT, tss, he, hc, hdx, hd, h1, _⟩ := ld
  have I2 : Inv X pins (noneOf X) (upd H e (XL e C dx)) { s with heap := h' } := Inv_track I1 y' hn (xl_ok he hc hdx hd)
  refine store_ok (X := Xm X (.ref e) fun _ _ => False) (v := .ref e) (inv_in I2) hN hi (.inl hl) rfl (fun s3 I3 => ?_) (.inr hl)
  refine wpAny_mono (hs (.ref e) pins _ _ _ (Rt D) I3 (q e hn)) (fun f s2 z => ?_) fun _ _ z => z.elim
  show wpAny _ _ _ _ _ _
  cases f with
  | next => obtain ⟨_, _, _, z⟩ := z; exact z.elim
  | brk => obtain ⟨_, _, _, z⟩ := z; exact z.elim
  | cont => obtain ⟨_, _, _, z⟩ := z; exact z.elim
  | ret u =>
    obtain ⟨v, σ4, H4, I4, rv, z⟩ := z
    have I5 := inv_out I.ok I4
    obtain ⟨m, hm4, _⟩ := id I5.loc
    have hcls : (X.env.scope.kind == .class || (X.env.scope.kind == .module && X.env.locals != X.env.globals)) = false := by rw [I.ok.kind]; rfl
    exact wpAny_nameGoes hl hm4 hcls fun h5 m5 n5 sb5 => ⟨v, noneOf X, H4, inv_locals I5 n5 sb5, rv, z⟩
theorem ps_tryAs (c : XCls X.K C fI) (hg : Gl X x) (hm : X.mg x = some (.ref C)) (hf : X.env.frame = some X.env.locals) (hst : ∃ outer, X.stack = X.env :: outer) (hN : X.N.Nodup) (hi : X.N[i]? = some n) (hl : X.env.scope.names.lookup n = some .local)
    (hb : ∀ pn xe E, Flies (Xt X pn xe) E → PSs (Xt X pn xe) body (tb E)) (hs : ∀ v, PSs (Xm X v fun _ _ => False) (b0 :: suite) ts) (hdb : (x == ("__debug__" : Str)) = false := by decide) :
    PS X (.Try body [.ExceptHandler (some (.Name x np)) (some n) (b0 :: suite) hpos] [] [] pos) (tTryAs X C i tb ts) := by
  intro pins s σ H D I h
  refine wpAny_Try_except (wpAny_mono (hb _ _ _ (flies_as (pins := pins) (D := D) c hg hm hdb hf hst hN hi hl hs) [] s σ H D (inv_fore I) h) (fun f s1 z => ?_) fun e s1 z => z)
  have z' := body_end I.ok z
  cases f with
  | next => exact wpAny_execs_nil z'
  | brk => exact z'
  | cont => exact z'
  | ret u => exact z'
end
end L2.XC

set_option Elab.async false
set_option linter.all false
set_option maxRecDepth 100000
set_option maxHeartbeats 2000000
namespace L2
open PySem PySem.Spec PyProof.Rows
section
variable {X : Cx}
/-! ### one iterator just laid -/
theorem pi_one {tg : Expr} {pins : List (Addr × Obj)} {σ : St} {H : Hp} {s : Shared} {R : It → Hp → Prop} {J : It} {tn : Nat → Heap → Prop} {tk : Nat} (I : Inv X pins σ H s) (o : Obj)
    (T : Turn X.prog X.w X.K tg J [s.heap.objs.size] s.heap.objs.size tn) (st : tn 0 (s.heap.push o)) (q : R J H) : PIE X pins σ tg R (.ref s.heap.objs.size) { s with heap := s.heap.push o, toks := tk } := by
  refine ⟨s.heap.objs.size, [s.heap.objs.size], tn, J, H, rfl, I.kept fun b ob e => Heap.get?_push_of_some _ e, T, st, fun b hb => ?_, q⟩
  have e : b = s.heap.objs.size := by simpa using hb
  subst e
  exact I.fpOk (Nat.le_refl _) (I.hok.fresh (Nat.le_refl _))
end
section
variable {X : Cx} {tg : Expr}
end

end L2

set_option Elab.async false
set_option linter.all false
set_option maxRecDepth 100000
set_option maxHeartbeats 2000000
namespace L2
open PySem PySem.Spec PyProof.Rows
end L2

set_option Elab.async false
set_option linter.all false
set_option maxRecDepth 100000
set_option maxHeartbeats 2000000
namespace HT
open PySem PyProof.Rows
open PySem.AutoSeq1 (wpAny_loadPart')
open PySem.MeetsSeq PySem.MeetsSeq2 PySem.MeetsSeq3
/-- xs <= ys of lists of ints -/
def lexLe : List Int → List Int → Bool
  | [], _ => true
  | _ :: _, [] => false
  | x :: xs, y :: ys => if x = y then lexLe xs ys else decide (x ≤ y)
theorem rcLe_int (A : Around) (s : Shared) (a : Int) (t : Tok) (c : Int) (u : Tok) (prog : Program) (w : World) (E : Value → Shared → Prop) (Q : Value → Shared → Prop) (h : Q (.bool (decide (a ≤ c))) s) :
    wpAny (model prog w) A (richCompare .LtE (.int a t) (.int c u)) Q E s :=
  (PyProof.Rows.le_int h : wpAny (model prog w) A (compareOp .LtE (.int a t) (.int c u)) Q E s)
theorem ints_at : ∀ {vs : List Value} {ns : List Int} {i : Nat}, IntsAre vs ns → i < ns.length → ∃ t, vs[i]? = some (.int (ns[i]?.getD 0) t)
  | _, _, 0, .cons n t _, _ => ⟨t, by simp⟩
  | _, _, i + 1, .cons n t r, h => by
    obtain ⟨u, e⟩ := ints_at (i := i) r (by simpa using h)
    exact ⟨u, by simpa using e⟩
theorem le_loop (l b : Addr) (items items2 : Array Value) (n n2 : Nat) (ns ms : List Int) (hi : IntsAre items.toList ns) (hj : IntsAre items2.toList ms) (k : Nat) :
    ∀ i : Nat, i ≤ ns.length → i ≤ ms.length → ns.length - i = k → Meets (Builtin.«list.__eq__.loop» ⟨[.ref l, .ref b, rawInt i, rawInt 1], []⟩)
      (fun _ R s => s.heap.get? l = some { cls := .type "list", dict := none, data := .seq items n, slots := #[] } ∧ s.heap.get? b = some { cls := .type "list", dict := none, data := .seq items2 n2, slots := #[] } ∧
        R (.ok (.ret (.bool (lexLe (ns.drop i) (ms.drop i))))) s) := by
  have z1 : items.size = ns.length := by rw [← hi.length]; simp
  have z2 : items2.size = ms.length := by rw [← hj.length]; simp
  induction k with
  | zero =>
    intro i b1 b2 hk prog w A R s h
    obtain ⟨hp, g, d, tk, os⟩ := s
    obtain ⟨hl, hb, h⟩ := h
    have e0 : i = ns.length := by omega
    subst e0
    wp_walk using wpAny_loadPart' hl, wpAny_loadPart' hb
    have hi1 : items[((ns.length : Nat) : Int).toNat]? = none := by simp; omega
    rw [hi1]
    wp_walk using wpAny_loadPart' hl, wpAny_loadPart' hb
    show R (.ok (.ret (.bool (decide (items.size ≤ items2.size))))) _
    rw [decide_eq_true (by omega)]
    rw [List.drop_length] at h
    exact h
  | succ k ih =>
    intro i b1 b2 hk prog w A R s h
    obtain ⟨hp, g, d, tk, os⟩ := s
    obtain ⟨hl, hb, h⟩ := h
    have l1 : i < ns.length := by omega
    obtain ⟨t, e1⟩ := ints_at hi l1
    have f1 : items[((i : Nat) : Int).toNat]? = some (.int (ns[i]?.getD 0) t) := by
      rw [Int.toNat_natCast, ← Array.getElem?_toList]; exact e1
    have d1 : ns.drop i = ns[i]?.getD 0 :: ns.drop (i + 1) := by rw [List.drop_eq_getElem_cons l1, List.getElem?_eq_getElem l1]; rfl
    wp_walk using wpAny_loadPart' hl, wpAny_loadPart' hb
    rw [f1]
    by_cases l2 : i < ms.length
    · obtain ⟨u, e2⟩ := ints_at hj l2
      have f2 : items2[((i : Nat) : Int).toNat]? = some (.int (ms[i]?.getD 0) u) := by
        rw [Int.toNat_natCast, ← Array.getElem?_toList]; exact e2
      have d2 : ms.drop i = ms[i]?.getD 0 :: ms.drop (i + 1) := by rw [List.drop_eq_getElem_cons l2, List.getElem?_eq_getElem l2]; rfl
      rw [d1, d2] at h
      rw [f2]
      generalize ns[i]?.getD 0 = a at h f1
      generalize ms[i]?.getD 0 = c at h f2
      have hc : ((i : Int) + 1) = ((i + 1 : Nat) : Int) := by push_cast; rfl
      obtain ⟨e, he, hiff⟩ := eqAt_int A.in1 ⟨hp, g, d, tk, os⟩ a t c u
      refine wpAny_bind (he prog w _ _ ?_)
      cases e with
      | true =>
        have hac : a = c := hiff.mp rfl
        have h' : R (.ok (.ret (.bool (lexLe (ns.drop (i + 1)) (ms.drop (i + 1)))))) ⟨hp, g, d, tk, os⟩ := by
          simpa [lexLe, hac] using h
        wp_walk
        rw [hc]
        exact ⟨plainId_quiet plain_eq_loop _, codeAny_builtin entry_eq_loop (by
          rw [Around.under_plainId plain_eq_loop _]
          exact ih (i + 1) (by omega) (by omega) (by omega) prog w A R _ ⟨hl, hb, h'⟩)⟩
      | false =>
        have hac : ¬ a = c := fun q => absurd (hiff.mpr q) Bool.false_ne_true
        have h' : R (.ok (.ret (.bool (decide (a ≤ c))))) ⟨hp, g, d, tk, os⟩ := by
          simpa [lexLe, hac] using h
        have hri := rcLe_int A.in1 ⟨hp, g, d, tk, os⟩ a t c u prog w
        wp_walk using wpAny_loadPart' hl, wpAny_loadPart' hb
        rw [f1, f2]
        wp_walk using hri
        exact h'
    · have e2 : i = ms.length := by omega
      have hi2 : items2[((i : Nat) : Int).toNat]? = none := by simp; omega
      rw [hi2]
      wp_walk using wpAny_loadPart' hl, wpAny_loadPart' hb
      show R (.ok (.ret (.bool (decide (items.size ≤ items2.size))))) _
      rw [decide_eq_false (by omega)]
      rw [d1, e2, List.drop_length] at h
      exact h
theorem list_le_ints (l b : Addr) (items items2 : Array Value) (n n2 : Nat) (ns ms : List Int) (hi : IntsAre items.toList ns) (hj : IntsAre items2.toList ms) :
    Meets (Builtin.«list.__le__» ⟨[.ref l, .ref b], []⟩)
      (fun _ R s => s.heap.get? l = some { cls := .type "list", dict := none, data := .seq items n, slots := #[] } ∧ s.heap.get? b = some { cls := .type "list", dict := none, data := .seq items2 n2, slots := #[] } ∧
        R (.ok (.ret (.bool (lexLe ns ms)))) s) := by
  intro prog w A R s h
  obtain ⟨hp, g, d, tk, os⟩ := s
  obtain ⟨hl, hb, h⟩ := h
  have f3 := AutoSeq1.sub_list_list
  wp_walk using wpAny_loadPart' hl, wpAny_loadPart' hb
  exact ⟨plainId_quiet plain_eq_loop _, codeAny_builtin entry_eq_loop (by
    rw [Around.under_plainId plain_eq_loop _]
    exact le_loop l b items items2 n n2 ns ms hi hj _ 0 (Nat.zero_le _) (Nat.zero_le _) rfl prog w A R _ ⟨hl, hb, by simpa using h⟩)⟩
end HT
namespace L2
open PySem PySem.Spec PyProof.Rows
section
variable {X : Cx}
def rLeL : R2 := fun x y H Q => ∃ a b ns ms, x = .ref a ∧ y = .ref b ∧ H a = some (.lst (ns.map V.int)) ∧ H b = some (.lst (ms.map V.int)) ∧ Q (.bl (HT.lexLe ns ms)) H
theorem op_leL (hu : X.A.units < cLine) : OpR X (compareOp .LtE) rLeL := by
  intro pins s σ H x y v u Q I rx ry h
  obtain ⟨a, b, ns, ms, rfl, rfl, ha, hb, q⟩ := h
  cases rx
  cases ry
  obtain ⟨z, its, n, r, hl, e⟩ := I.lstM ha
  obtain ⟨z2, its2, n2, r2, hl2, e2⟩ := I.lstM hb
  have i1 : IntsAre its.toArray.toList ns := intsAre_of r
  have i2 : IntsAre its2.toArray.toList ms := intsAre_of r2
  show wpAny (model X.prog X.w) X.A (richCompare .LtE (.ref a) (.ref b)) _ _ s
  exact richCompare_meets_room (op := .LtE) ⟨_, e, rfl⟩ ⟨_, e2, rfl⟩ PySem.F.slot_list_le PySem.F.entry_list_le (PySem.F.args_list_le_2 _ _) (HT.list_le_ints a b its.toArray its2.toArray n n2 ns ms i1 i2)
    ⟨e, e2, (fun z => nomatch z), ⟨.bl (HT.lexLe ns ms), H, I, rfl, q⟩⟩ hu
end
end L2

set_option Elab.async false
set_option linter.all false
set_option maxRecDepth 100000
set_option maxHeartbeats 2000000
namespace L2
open PySem PySem.Spec PyProof.Rows
/-! ### a str -/
def Its (x : Str) : It := ⟨fun i _ => i < x.cps.size, fun i H v H' => H' = H ∧ ∃ c, x.cps[i]? = some c ∧ v = .str ⟨#[c]⟩, fun i _ => x.cps.size ≤ i⟩
theorem turn_str {P : Program} {w : World} {K : PySem.W.Frag} {tg : Expr} (it : Addr) (x : Str) (t : Tok) (ty : String) (hty : ty = "str_ascii_iterator" ∨ ty = "str_iterator") :
    Turn P w K tg (Its x) [it] it (fun i h => h.IsStrIter it ty x t i) where
  mem := by simp
  obj := fun i h st b hb => by
    have e : b = it := by simpa using hb
    subst e
    obtain ⟨o, e, c, d⟩ := st
    exact ⟨o, e, fun v z => by rw [d] at z; cases z⟩
  keep := fun i h h' st k => let ⟨o, ho, r⟩ := st; ⟨o, k it (by simp) o ho, r⟩
  item := by
    intro X hP hw hK hc i pins s σ H E I hf st hg
    subst hP hw hK
    obtain ⟨f0, f1, f2, f3, f4, f5⟩ := hf it (by simp)
    have W : Walks X.prog X.w X.A it [it] [it] x.cps.size (SignAt x) (fun i h => h.IsStrIter it ty x t i) := by
      rcases hty with e | e
      · rw [e]; exact Walks.strAscii (I.ok.hd hc) it x t
      · rw [e]; exact Walks.strWide (I.ok.hd hc) it x t
    have hno : ["enumerate", "zip", "dict_itemiterator", "dict_reverseitemiterator", "odict_iterator", "itertools.zip_longest", "itertools.pairwise"].contains ty = false := by
      rcases hty with e | e
      · rw [e]; decide
      · rw [e]; decide
    refine W.item i s _ _ hg st fun v h' tk hv st' kk => ?_
    obtain ⟨c, u, hcx, rfl⟩ := hv
    have I1 : Inv X pins σ H { s with heap := h', toks := tk } := I.turned (fun b o hb e => kk b o (by simpa using hb) e) f0 f1 f3 f4 f5
    obtain ⟨oi, e, cc, dd⟩ := id st'
    exact ⟨_, rfl, go_of (s := { s with heap := h', toks := tk }) e cc dd hno ⟨.str ⟨#[c]⟩, H, I1, ⟨u, rfl⟩, ⟨rfl, c, hcx, rfl⟩, st', fun b hb => (hf b hb).1⟩⟩
  done := by
    intro X hP hw hK hc i pins s σ H E I hf st hg
    subst hP hw hK
    obtain ⟨f0, f1, f2, f3, f4, f5⟩ := hf it (by simp)
    have hx : x.cps[i]? = none := Array.getElem?_eq_none hg
    rcases hty with e | e
    · rw [e] at st
      exact wpAny_pyNext_ascii_end (I.ok.hd hc) st hx fun h' eb => ⟨rfl, I.turned (t' := s.toks) (fun b o hb e => eb b o hb e) f0 f1 f3 f4 f5⟩
    · rw [e] at st
      exact wpAny_pyNext_wide_end (I.ok.hd hc) st hx fun h' eb => ⟨rfl, I.turned (t' := s.toks) (fun b o hb e => eb b o hb e) f0 f1 f3 f4 f5⟩
  self := fun A i s Q E st h => by
    rcases hty with e | e
    · rw [e] at st; exact wpAny_pyIter_striter_ascii st h
    · rw [e] at st; exact wpAny_pyIter_striter_wide st h
def iStr (te : TE) : TI := fun σ H R => te σ H fun v H1 => ∃ x, v = .str x ∧ R (Its x) H1
theorem pi_str {X : Cx} {tg e : Expr} {te : TE} (he : PE X e te) : PI X tg e (iStr te) := by
  intro pins s σ H R I h
  refine thn (he pins s σ H _ I h) fun v s1 ⟨y, H1, I1, r1, x, ex, q⟩ => ?_
  subst ex
  obtain ⟨t, rfl⟩ := r1
  cases ha : x.cps.all (· < 128)
  · exact wpAny_pyIter_wide ha (pi_one (tk := s1.toks) I1 _ (turn_str _ x t "str_iterator" (.inr rfl)) ⟨_, Heap.get?_push_size _ rfl, rfl, rfl⟩ q)
  · exact wpAny_pyIter_ascii ha (pi_one (tk := s1.toks) I1 _ (turn_str _ x t "str_ascii_iterator" (.inl rfl)) ⟨_, Heap.get?_push_size _ rfl, rfl, rfl⟩ q)

end L2

set_option Elab.async false
set_option linter.all false
set_option maxRecDepth 100000
set_option maxHeartbeats 2000000
namespace L2
open PySem PySem.Spec PyProof.Rows
abbrev CellAt (h : Heap) (c : Addr) (v : Option Value) : Prop := h.IsCell c v
def relS (scope sc : Scope) : Scope :=
  { scope with names := scope.names.map fun (n, k) => if (k == .free && sc.kind == .function && sc.names.lookup n == some .cell) then (n, .cell) else (n, k) }

def cloFrom (cells : List (Str × Addr)) : List (Str × NameKind) → List (Str × Addr) → List (Str × Addr)
  | [], acc => acc
  | (n, k) :: r, acc => if k == .free then cloFrom cells r ((n, (cells.lookup n).getD 0) :: acc) else cloFrom cells r acc

theorem closure_loop (env : Env) (f : Str × NameKind → List (Str × Addr) → Sem (ForInStep (List (Str × Addr))))
    (hf : ∀ n k c, f (n, k) c = if k == .free then (do let a ← cellOf env n; pure (.yield ((n, a) :: c))) else pure (.yield c)) :
    ∀ (names : List (Str × NameKind)) (acc : List (Str × Addr)), (∀ y ∈ names, y.2 = .free → ∃ c, env.cells.lookup y.1 = some c) → forIn names acc f = pure (cloFrom env.cells names acc)
  | [], acc, _ => by rw [List.forIn_nil]; rfl
  | (n, k) :: r, acc, h => by
    rw [List.forIn_cons, hf]
    have ih := fun acc => closure_loop env f hf r acc fun y hy => h y (List.mem_cons_of_mem _ hy)
    unfold cloFrom
    by_cases hk : (k == NameKind.free) = true
    · rw [if_pos hk, if_pos hk]
      obtain ⟨c, hc⟩ := h (n, k) List.mem_cons_self (by simpa using hk)
      have e : cellOf env n = pure c := by unfold cellOf; rw [hc]
      rw [e]
      have e2 : (env.cells.lookup n).getD 0 = c := by rw [hc]; rfl
      rw [e2]
      exact ih _
    · rw [if_neg hk, if_neg hk]
      exact ih _
theorem closure_ok {scope : Scope} {env : Env} (h : ∀ y ∈ scope.names, y.2 = .free → ∃ c, env.cells.lookup y.1 = some c) : closureFor scope env = pure (cloFrom env.cells scope.names []) := by
  simp only [closureFor]
  rw [closure_loop env _ (fun n k c => rfl) scope.names [] h]
  rfl

theorem mem_lookup {α : Type} : ∀ {l : List (Str × α)} {n : Str} {c : α}, (n, c) ∈ l → ∃ c', l.lookup n = some c'
  | (k, v) :: r, n, c, h => by
    rw [List.lookup_cons]
    cases hb : n == k with
    | true => exact ⟨_, rfl⟩
    | false =>
      rcases List.mem_cons.mp h with e | h
      · cases e; simp at hb
      · exact mem_lookup h

theorem cloFrom_mem {cells : List (Str × Addr)} : ∀ {names : List (Str × NameKind)} {acc : List (Str × Addr)} {n : Str} {c : Addr}, (n, c) ∈ cloFrom cells names acc → (n, c) ∈ acc ∨ ((n, .free) ∈ names ∧ c = (cells.lookup n).getD 0)
  | [], _, _, _, h => .inl h
  | (m, k) :: r, acc, n, c, h => by
    unfold cloFrom at h
    split at h
    · rename_i hk
      have hk : k = .free := by simpa using hk
      rcases cloFrom_mem h with h | ⟨h1, h2⟩
      · rcases List.mem_cons.mp h with e | h
        · cases e; exact .inr ⟨hk ▸ List.mem_cons_self, rfl⟩
        · exact .inl h
      · exact .inr ⟨List.mem_cons_of_mem _ h1, h2⟩
    · rcases cloFrom_mem h with h | ⟨h1, h2⟩
      · exact .inl h
      · exact .inr ⟨List.mem_cons_of_mem _ h1, h2⟩
theorem cloFrom_acc {cells : List (Str × Addr)} : ∀ {names : List (Str × NameKind)} {acc : List (Str × Addr)} {p : Str × Addr}, p ∈ acc → p ∈ cloFrom cells names acc
  | [], _, _, h => h
  | (m, k) :: r, acc, p, h => by
    unfold cloFrom
    split
    · exact cloFrom_acc (List.mem_cons_of_mem _ h)
    · exact cloFrom_acc h
theorem cloFrom_has {cells : List (Str × Addr)} : ∀ {names : List (Str × NameKind)} {acc : List (Str × Addr)} {n : Str}, (n, .free) ∈ names → (n, (cells.lookup n).getD 0) ∈ cloFrom cells names acc
  | (m, k) :: r, acc, n, h => by
    unfold cloFrom
    rcases List.mem_cons.mp h with e | h
    · cases e
      exact cloFrom_acc List.mem_cons_self
    · split
      · exact cloFrom_has h
      · exact cloFrom_has h

theorem cells_mem : ∀ {names : List (Str × NameKind)} {h : Heap} {acc : List (Str × Addr)} {x : Str} {c : Addr}, (x, c) ∈ cellsFrom h.objs.size names acc →
    (x, c) ∈ acc ∨ ((x, .cell) ∈ names ∧ h.objs.size ≤ c ∧ CellAt (pushCells h names) c none)
  | [], _, _, _, _, h => .inl h
  | (n, k) :: r, h, acc, x, c, hm => by
    unfold cellsFrom at hm
    unfold pushCells
    split at hm
    · rename_i hk
      rw [if_pos hk]
      have hk : k = .cell := by simpa using hk
      rw [← Heap.size_push h { cls := .type "cell", data := .cell none }] at hm
      rcases cells_mem hm with hm | ⟨h1, h2, h3⟩
      · rcases List.mem_cons.mp hm with e | hm
        · cases e
          exact .inr ⟨hk ▸ List.mem_cons_self, Nat.le_refl _, _, pushCells_keeps r _ _ _ (Heap.get?_push_size _ rfl), rfl⟩
        · exact .inl hm
      · rw [Heap.size_push] at h2
        exact .inr ⟨List.mem_cons_of_mem _ h1, Nat.le_of_succ_le h2, h3⟩
    · rename_i hk
      rw [if_neg hk]
      rcases cells_mem hm with hm | ⟨h1, h2, h3⟩
      · exact .inl hm
      · exact .inr ⟨List.mem_cons_of_mem _ h1, h2, h3⟩
theorem cells_acc : ∀ {names : List (Str × NameKind)} {n : Nat} {acc : List (Str × Addr)} {p : Str × Addr}, p ∈ acc → p ∈ cellsFrom n names acc
  | [], _, _, _, h => h
  | (m, k) :: r, n, acc, p, h => by
    unfold cellsFrom
    split
    · exact cells_acc (List.mem_cons_of_mem _ h)
    · exact cells_acc h
theorem cells_has : ∀ {names : List (Str × NameKind)} {n : Nat} {acc : List (Str × Addr)} {x : Str}, (x, .cell) ∈ names → ∃ c, (x, c) ∈ cellsFrom n names acc
  | (m, k) :: r, n, acc, x, h => by
    unfold cellsFrom
    rcases List.mem_cons.mp h with e | h
    · cases e
      exact ⟨n, cells_acc List.mem_cons_self⟩
    · split
      · exact cells_has h
      · exact cells_has h
theorem cells_inj : ∀ {names : List (Str × NameKind)} {h : Heap} {acc : List (Str × Addr)} {x y : Str} {c : Addr}, (∀ p ∈ acc, p.2 < h.objs.size) → (∀ x y c, (x, c) ∈ acc → (y, c) ∈ acc → x = y) →
    (x, c) ∈ cellsFrom h.objs.size names acc → (y, c) ∈ cellsFrom h.objs.size names acc → x = y
  | [], _, _, _, _, _, _, hi, h1, h2 => hi _ _ _ h1 h2
  | (n, k) :: r, h, acc, x, y, c, hl, hi, h1, h2 => by
    unfold cellsFrom at h1 h2
    split at h1
    · rename_i hk
      rw [if_pos hk] at h2
      rw [← Heap.size_push h { cls := .type "cell", data := .cell none }] at h1 h2
      refine cells_inj (h := h.push _) (fun p hp => ?_) (fun x y c a b => ?_) h1 h2
      · rw [Heap.size_push]
        rcases List.mem_cons.mp hp with rfl | hp
        · exact Nat.lt_succ_self _
        · exact Nat.lt_succ_of_lt (hl p hp)
      · rcases List.mem_cons.mp a with e | a <;> rcases List.mem_cons.mp b with e' | b
        · cases e; cases e'; rfl
        · cases e; exact absurd (hl _ b) (Nat.lt_irrefl _)
        · cases e'; exact absurd (hl _ a) (Nat.lt_irrefl _)
        · exact hi _ _ _ a b
    · rename_i hk
      rw [if_neg hk] at h2
      exact cells_inj hl hi h1 h2

theorem newEnv_comp {M : Model} {A : Around} {E : Value → Shared → Prop} {s : Shared} {scope : Scope} {globals : Addr} {closure : List (Str × Addr)} {qual : Str} {func : Option Addr} {code : Value} {around : Env} {builtins : Addr} {Q : Env → Shared → Prop}
    (h : Q (newEnv scope s.heap.objs.size globals (cellsFrom (s.heap.objs.size + 1) scope.names closure) qual func code (some around) builtins)
      { s with heap := pushCells (s.heap.push { cls := .type "dict", data := .dict #[] }) scope.names }) :
    wpAny M A (newFunctionEnv scope globals closure [] qual func code (some around) builtins) Q E s := by
  simp only [newFunctionEnv, Option.isSome_some, if_true]
  refine wpAny_bind (wpAny_alloc ?_)
  refine wpAny_bind (wpAny_layCells _ (fun n k c => rfl) scope.names closure _ _ ?_)
  rw [show ({ s with heap := s.heap.push { cls := .type "dict", data := .dict #[] } } : Shared).heap.objs.size = s.heap.objs.size + 1 from Heap.size_push ..]
  rw [List.forIn_nil]
  exact wpAny_bind (wpAny_pure (wpAny_pure h))

/-- every name of the written scope, in the scope that runs -/
theorem lookup_relS {sc : Scope} : ∀ {names : List (Str × NameKind)} {x : Str} {k : NameKind},
    (names.map fun (n, k) => if (k == NameKind.free && sc.kind == .function && sc.names.lookup n == some .cell) then (n, NameKind.cell) else (n, k)).lookup x = some k →
    ∃ k', names.lookup x = some k' ∧ (k = k' ∨ (k' = .free ∧ k = .cell))
  | [], _, _, h => by simp at h
  | (n, k₀) :: r, x, k, h => by
    have ih := @lookup_relS sc r x k
    have h' : List.lookup x ((if (k₀ == NameKind.free && sc.kind == .function && sc.names.lookup n == some .cell) = true then (n, NameKind.cell) else (n, k₀)) :: (r.map _)) = some k := h
    cases hx : x == n with
    | true =>
      simp only [List.lookup_cons, hx]
      by_cases hc : (k₀ == NameKind.free && sc.kind == .function && sc.names.lookup n == some .cell) = true
      · rw [if_pos hc] at h'
        simp only [List.lookup_cons, hx] at h'
        cases h'
        simp only [Bool.and_eq_true, beq_iff_eq] at hc
        exact ⟨k₀, rfl, .inr ⟨hc.1.1, rfl⟩⟩
      · rw [if_neg hc] at h'
        simp only [List.lookup_cons, hx] at h'
        cases h'
        exact ⟨_, rfl, .inl rfl⟩
    | false =>
      simp only [List.lookup_cons, hx]
      by_cases hc : (k₀ == NameKind.free && sc.kind == .function && sc.names.lookup n == some .cell) = true
      · rw [if_pos hc] at h'
        simp only [List.lookup_cons, hx] at h'
        exact ih h'
      · rw [if_neg hc] at h'
        simp only [List.lookup_cons, hx] at h'
        exact ih h'
/-- the names of a comprehension's block: its own (with their places in N), or captured -/
structure BlkOk (N : List Str) (sc scope : Scope) (own : List (Str × Nat)) : Prop where
  kind : scope.kind = .function
  uniq : ∀ y ∈ scope.names, scope.names.lookup y.1 = some y.2
  ix : ∀ p ∈ own, N[p.2]? = some p.1
  free : ∀ y ∈ scope.names, y.2 = .free → sc.names.lookup y.1 = some .cell ∨ sc.names.lookup y.1 = some .free
  own : ∀ y ∈ scope.names, y.2 = .local ∨ y.2 = .cell → y.1 ∈ own.map (·.1) ∨ y.1 ∉ N
/-- the slots of the block's own names forgotten -/
def wipe (σ : St) : List Nat → St
  | [] => σ
  | v :: vs => (wipe σ vs).set v none
theorem wipe_length (σ : St) : ∀ vs : List Nat, (wipe σ vs).length = σ.length
  | [] => rfl
  | v :: vs => by unfold wipe; rw [List.length_set, wipe_length σ vs]
theorem wipe_some {σ : St} {i : Nat} {x : V} : ∀ {vs : List Nat}, (wipe σ vs)[i]? = some (some x) → σ[i]? = some (some x) ∧ i ∉ vs
  | [], h => ⟨h, by simp⟩
  | v :: vs, h => by
    unfold wipe at h
    by_cases hi : v = i
    · subst hi
      by_cases hv : v < (wipe σ vs).length
      · rw [List.getElem?_set_self hv] at h; cases h
      · rw [List.getElem?_eq_none (by simpa using hv)] at h; cases h
    · rw [List.getElem?_set_ne hi] at h
      obtain ⟨h1, h2⟩ := wipe_some h
      exact ⟨h1, by simp only [List.mem_cons, not_or]; exact ⟨fun e => hi e.symm, h2⟩⟩

/-- the context of a block that starts at s, its iterator's objects at fp -/
abbrev Cx.blk (X : Cx) (s : Shared) (H : Hp) (scope : Scope) (cenv : Env) (fp : List Addr) : Cx := { X with s_0 := s, H_0 := H, env := cenv, outer := X.stack, ex := fp, fn := fun x => scope.names.lookup x == some .cell, pn := [], xe := fun _ _ => False }
section
variable {X : Cx} {pins : List (Addr × Obj)} {σ : St} {H : Hp} {s : Shared}
theorem block_start {scope : Scope} {own : List (Str × Nat)} {fp : List Addr} (I : Inv X pins σ H s) (ok : BlkOk X.N X.env.scope scope own) (hN : X.N.Nodup) (hfp : ∀ b ∈ fp, FpOk X pins H b ∧ b < s.heap.objs.size) :
    Inv (X.blk s H scope (compEnvC scope (cellsFrom (s.heap.objs.size + 1) scope.names (cloFrom X.env.cells scope.names [])) s.heap.objs.size X.env) fp) [] (wipe σ (own.map (·.2))) H { s with heap := pushCells (s.heap.push { cls := .type "dict", data := .dict #[] }) scope.names } := by
  have hfree : ∀ y ∈ scope.names, y.2 = .free → ∃ c, X.env.cells.lookup y.1 = some c := fun y hy e => by
    rcases ok.free y hy e with k | k
    · exact I.ok.has _ (.inl k)
    · exact I.ok.has _ (.inr k)
  generalize hcenv : compEnvC scope (cellsFrom (s.heap.objs.size + 1) scope.names (cloFrom X.env.cells scope.names [])) s.heap.objs.size X.env = cenv
  have kp : ∀ b o, s.heap.get? b = some o → (pushCells (s.heap.push { cls := .type "dict", data := .dict #[] }) scope.names).get? b = some o := fun b o e => pushCells_keeps _ _ _ _ (Heap.get?_push_of_some _ e)
  have hL : cenv.locals = s.heap.objs.size := by rw [← hcenv]; rfl
  have hcl : cenv.cells = cellsFrom (s.heap.objs.size + 1) scope.names (cloFrom X.env.cells scope.names []) := by rw [← hcenv]; rfl
  have hsc : cenv.scope = relS scope X.env.scope := by rw [← hcenv]; rfl
  rw [← Heap.size_push s.heap { cls := .type "dict", data := .dict #[] }] at hcl
  have cm : ∀ {y c}, (y, c) ∈ cloFrom X.env.cells scope.names [] → X.env.cells.lookup y = some c ∧ c < s.heap.objs.size := fun {y c} hm => by
    rcases cloFrom_mem hm with hm | ⟨h1, rfl⟩
    · cases hm
    · obtain ⟨c, hc⟩ := hfree _ h1 rfl
      rw [hc]
      obtain ⟨w, z⟩ := I.cell _ _ hc
      exact ⟨rfl, z.lt⟩
  have mem : ∀ {y c}, cenv.cells.lookup y = some c → (X.env.cells.lookup y = some c ∧ c < s.heap.objs.size) ∨ (s.heap.objs.size + 1 ≤ c ∧ CellAt (pushCells (s.heap.push { cls := .type "dict", data := .dict #[] }) scope.names) c none) := fun {y c} e => by
    rw [hcl] at e
    rcases cells_mem (PySem.mem_of_lookup e) with hm | ⟨_, h2, h3⟩
    · exact .inl (cm hm)
    · rw [Heap.size_push] at h2; exact .inr ⟨h2, h3⟩
  have look : ∀ {y}, scope.names.lookup y = some .free → ∃ c, cenv.cells.lookup y = some c ∧ X.env.cells.lookup y = some c := fun {y} hl => by
    have hy : (y, NameKind.free) ∈ scope.names := PySem.mem_of_lookup hl
    obtain ⟨c', e'⟩ := mem_lookup (cells_acc (names := scope.names) (n := (s.heap.push { cls := .type "dict", data := .dict #[] }).objs.size) (cloFrom_has (cells := X.env.cells) (acc := []) hy))
    rw [← hcl] at e'
    refine ⟨c', e', ?_⟩
    rw [hcl] at e'
    rcases cells_mem (PySem.mem_of_lookup e') with hm | ⟨h1, _, _⟩
    · exact (cm hm).1
    · have := ok.uniq _ h1
      rw [hl] at this; cases this
  have okB : (X.blk s H scope cenv fp).Ok := by
    refine ⟨I.ok.mod, by show cenv.scope.kind = _; rw [hsc]; exact ok.kind, by show cenv.globals = _; rw [← hcenv]; exact I.ok.glob, by show cenv.builtins = _; rw [← hcenv]; exact I.ok.blt, by show s.heap.objs.size ≤ cenv.locals; rw [hL]; exact Nat.le_refl _,
      fun y z c e1 e2 => ?_, fun y hy => ?_, fun y c z e => ?_, I.ok.hd, I.ok.frames, .inl rfl, fun b hb => ⟨?_, fun y c e z => ?_⟩, I.bs, Nat.le_trans I.ok.bsz I.sz, fun b o e hb => ?_, fun b hb z => ?_, I.stack, I.stkFree⟩
    · have e1 : cenv.cells.lookup y = some c := e1
      have e2 : cenv.cells.lookup z = some c := e2
      rw [hcl] at e1 e2
      refine cells_inj (fun p hp => ?_) (fun y z c a b => I.ok.inj y z c (cm a).1 (cm b).1) (PySem.mem_of_lookup e1) (PySem.mem_of_lookup e2)
      rw [Heap.size_push]
      exact Nat.lt_succ_of_lt (cm (y := p.1) (c := p.2) hp).2
    · show ∃ c, cenv.cells.lookup y = some c
      have key : ∀ k, cenv.kindOf y = some k → (k = .cell ∨ k = .free) → ∃ c, cenv.cells.lookup y = some c := fun k hk hk' => by
        unfold Env.kindOf at hk
        rw [hsc] at hk
        obtain ⟨k', e, r⟩ := lookup_relS hk
        have : k' = .cell ∨ k' = .free := by
          rcases r with rfl | ⟨rfl, _⟩
          · exact hk'
          · exact .inr rfl
        rcases this with rfl | rfl
        · obtain ⟨c, hm⟩ := cells_has (n := (s.heap.push { cls := .type "dict", data := .dict #[] }).objs.size) (acc := cloFrom X.env.cells scope.names []) (PySem.mem_of_lookup e)
          obtain ⟨c', e'⟩ := mem_lookup hm
          exact ⟨c', by rw [hcl]; exact e'⟩
        · obtain ⟨c, h1, _⟩ := look e
          exact ⟨c, h1⟩
      rcases hy with hy | hy
      · exact key _ hy (.inl rfl)
      · exact key _ hy (.inr rfl)
    · have z : (scope.names.lookup y == some NameKind.cell) = true := z
      have z : scope.names.lookup y = some .cell := by simpa using z
      have e : cenv.cells.lookup y = some c := e
      rw [hcl] at e
      rcases cells_mem (PySem.mem_of_lookup e) with hm | ⟨_, h2, _⟩
      · rcases cloFrom_mem hm with hm | ⟨h1, _⟩
        · cases hm
        · have q := ok.uniq _ h1
          rw [z] at q; cases q
      · rw [Heap.size_push] at h2
        exact Nat.le_of_succ_le h2
    · show b ≠ cenv.locals
      rw [hL]; exact Nat.ne_of_lt (hfp b hb).2
    · have e : cenv.cells.lookup y = some c := e
      rcases mem e with ⟨h1, _⟩ | ⟨h1, _⟩
      · exact (hfp b hb).1.2.2.2.2.1 y c h1 z
      · have h2 : s.heap.objs.size + 1 ≤ b := by rw [← z]; exact h1
        exact absurd (Nat.lt_of_lt_of_le (hfp b hb).2 (Nat.le_of_succ_le h2)) (Nat.lt_irrefl _)
    · rcases (hfp b hb).1.2.2.2.1 with z | z
      · exact I.ok.noex b o e z
      · exact absurd (Nat.lt_of_lt_of_le (Heap.lt_size e) (Nat.le_trans I.ok.bsz z)) (Nat.lt_irrefl _)
    · rcases List.mem_cons.mp (I.stkSub b z) with z | z
      · exact (hfp b hb).1.2.1 z
      · exact (hfp b hb).1.2.2.1 z
  refine ⟨okB, rfl, I.bare, Un.kept kp, ⟨fun _ => none, ?_, fun i y av e1 e2 e3 => ?_⟩, fun y c e => ?_, ?_, fun y c e => ?_, fun p hp => ?_, I.hok.kept kp, by rw [wipe_length]; exact I.len⟩
  · show Heap.Ns _ cenv.locals _
    rw [hL]
    exact Heap.Ns.keeps (Heap.Ns.new ..) fun b o e => pushCells_keeps _ _ _ _ e
  · obtain ⟨e2, hne⟩ := wipe_some e2
    have hfr : scope.names.lookup y = some .free ∧ (cenv.kindOf y = some .cell ∨ cenv.kindOf y = some .free) := by
      have key : ∀ k, cenv.scope.names.lookup y = some k → k = .local ∨ k = .cell ∨ k = .free → scope.names.lookup y = some .free ∧ (cenv.kindOf y = some .cell ∨ cenv.kindOf y = some .free) := fun k hk hk' => by
        have hk0 := hk
        rw [hsc] at hk
        obtain ⟨k', e, r⟩ := lookup_relS hk
        have no : ¬ (k' = .local ∨ k' = .cell) := fun hh => by
          rcases ok.own _ (PySem.mem_of_lookup e) hh with e' | e'
          · obtain ⟨p, hp, hpy⟩ := List.mem_map.mp e'
            have e3 := ok.ix p hp
            have : p.1 = y := hpy
            rw [this] at e3
            exact hne (List.mem_map.mpr ⟨p, hp, nodup_ix hN e3 e1⟩)
          · exact e' (List.mem_of_getElem? e1)
        rcases r with rfl | ⟨rfl, rfl⟩
        · rcases hk' with rfl | rfl | rfl
          · exact absurd (.inl rfl) no
          · exact absurd (.inr rfl) no
          · exact ⟨e, .inr hk0⟩
        · exact ⟨e, .inl hk0⟩
      have e3 : Vis cenv.scope y := e3
      rcases e3 with e3 | e3 | e3
      · exact key _ e3 (.inl rfl)
      · exact key _ e3 (.inr (.inl rfl))
      · exact key _ e3 (.inr (.inr rfl))
    obtain ⟨m, hn, hl⟩ := I.loc
    have hvis : Vis X.env.scope y := (ok.free _ (PySem.mem_of_lookup hfr.1) rfl).elim (fun k => .inr (.inl k)) (fun k => .inr (.inr k))
    obtain ⟨w, r, q⟩ := hl i y av e1 e2 hvis
    refine ⟨w, r, .inr ⟨hfr.2, ?_⟩⟩
    obtain ⟨c, h1, h2⟩ := look hfr.1
    rcases q with ⟨k, _⟩ | ⟨_, c', e', z⟩
    · have k : X.env.scope.names.lookup y = some .local := k
      rcases ok.free _ (PySem.mem_of_lookup hfr.1) rfl with k' | k' <;> rw [show X.env.scope.names.lookup y = _ from k'] at k <;> cases k
    · rw [h2] at e'; cases e'
      exact ⟨c, h1, z.keeps kp⟩
  · have e : cenv.cells.lookup y = some c := e
    rcases mem e with ⟨h1, _⟩ | ⟨_, z⟩
    · obtain ⟨w, z⟩ := I.cell y c h1
      exact ⟨w, z.keeps kp⟩
    · exact ⟨_, z⟩
  · show H cenv.locals = none
    rw [hL]; exact I.hok.fresh (Nat.le_refl _)
  · have e : cenv.cells.lookup y = some c := e
    rcases mem e with ⟨h1, _⟩ | ⟨h1, _⟩
    · exact I.freeC y c h1
    · exact I.hok.fresh (Nat.le_of_succ_le h1)
  · exact absurd (show p ∈ ([] : List (Addr × Obj)) ++ [] from hp) (by simp)

/-- an item appended to a tracked list -/
theorem app_ok {E : Value → Shared → Prop} {D : Addr} {xs : List V} {y : V} {v : Value} {Q : Value → Shared → Prop} (I : Inv X pins σ H s) (hD : H D = some (.lst xs)) (hz : xs.length < sizeLine) (r : RelV y v)
    (h : ∀ s', Inv X pins σ (upd H D (.lst (xs ++ [y]))) s' → Q .none s') : wpAny (model X.prog X.w) X.A (call (.builtin "list.append") [.ref D, v]) Q E s := by
  obtain ⟨hz', its, n, ri, e⟩ := I.hok D _ hD
  have hl := ri.length
  refine append_at (hsz := by rw [List.size_toArray]; omega) e fun h' sb ho' => ?_
  refine h { s with heap := h' } (I.write (t' := s.toks) (by rw [hD]; trivial) (.inl rfl) (fun b u hb q => (sb.2 b hb).trans q) ⟨_, ho'⟩ ⟨by rw [List.length_append]; exact hz, its ++ [v], n + 1, ri.append (.cons r .nil), ?_⟩)
  rw [ho']
  simp

/-- a clause's tests -/
def PTs (X : Cx) (ifs : List Expr) (t : TT) : Prop :=
  ∀ (pins : List (Addr × Obj)) (s : Shared) (σ : St) (H : Hp) (Q : Bool → Hp → Prop), Inv X pins σ H s → t σ H Q →
    wpAny (model X.prog X.w) X.A (forIn ifs true fun c r => if r = true then do let ok ← isTrue c X.env (eval c X.env); pure (ForInStep.yield ok) else pure (ForInStep.yield r)) (TP X pins σ Q) X.xe s
def tYes : TT := fun _ H Q => Q true H
theorem pts_nil : PTs X [] tYes := fun _ _ _ H _ I h => wpAny_tests_nil ⟨H, I, h⟩
end

theorem thnF {α : Type} {t : Sem α} {Q Q' : α → Shared → Prop} {M : Model} {A : Around} {E : Value → Shared → Prop} {s : Shared} (h : wpAny M A t Q (fun _ _ => False) s) (hQ : ∀ a s, Q a s → Q' a s) : wpAny M A t Q' E s := wpAny_mono h hQ fun _ _ z => False.elim z

/-- the loop of a list comprehension's block, the target of any form (codeAny_compLoop_tests asks a target that no tuple goes to; statement and proof follow it, PyProof/CompMap.lean:41-61, with the step letOwnedTupleGo kept) -/
theorem compLoop_any {prog : Program} {w : World} {A : Around} {R : Result → Shared → Prop} {s : Shared} {elt target iter : Expr} {ifs : List Expr} {scope : Scope} {pos : Pos} {it acc : Value} {env : Env} (I : Nat → Shared → Prop)
    (turn : ∀ n s, I n s → wpAny (model prog w) A (pyNext it) (fun r s₁ => match r with
      | none => R (.ok .next) s₁
      | some v => wpAny (model prog w) A (letOwnedTupleGo target it v) (fun _ s₁' => wpAny (model prog w) A (assign target env v) (fun _ s₂ =>
          wpAny (model prog w) A (forIn ifs true fun c r => if r = true then do let ok ← isTrue c env (eval c env); pure (ForInStep.yield ok) else pure (ForInStep.yield r)) (fun ok s₃ =>
            if ok = true then wpAny (model prog w) A (eval elt env) (fun x s₄ =>
              wpAny (model prog w) A (call (.builtin "list.append") [acc, x]) (fun _ s₅ => ∃ m, m < n ∧ I m s₅) (notedBy (model prog w) A env fun e s' => R (.error e) s') s₄) (notedBy (model prog w) A env fun e s' => R (.error e) s') s₃
            else ∃ m, m < n ∧ I m s₃) (notedBy (model prog w) A env fun e s' => R (.error e) s') s₂) (notedBy (model prog w) A env fun e s' => R (.error e) s') s₁') (notedBy (model prog w) A env fun e s' => R (.error e) s') s₁) (notedBy (model prog w) A env fun e s' => R (.error e) s') s)
    (n : Nat) (h : I n s) :
    codeAny (model prog w) A (.compLoop (.ListComp elt [⟨target, iter, ifs, 0⟩] scope pos) 0 it acc env) R s := by
  refine codeAny_loop rfl I (fun n s hI => ?_) n h
  show wpAny _ A ((compTurn (.ListComp elt [⟨target, iter, ifs, 0⟩] scope pos) 0 it acc env).onRaise (fun x => do noteFrame x env; theTreesLotGoes x)) _ _ s
  refine wpAny_noted ?_
  rw [compTurn_list]
  refine wpAny_bind (wpAny_standAt (wpAny_bind (wpAny_mono (turn n s hI) (fun r s₁ h₁ => ?_) fun _ _ h' => h')))
  cases r with
  | none => exact wpAny_pure h₁
  | some v =>
    refine wpAny_bind (wpAny_mono h₁ (fun _ s₁' h₁' => ?_) fun _ _ h' => h')
    refine wpAny_bind (wpAny_mono h₁' (fun _ s₂ h₂ => wpAny_bind (wpAny_mono h₂ (fun ok s₃ h₃ => ?_) fun _ _ h' => h')) fun _ _ h' => h')
    cases ok with
    | false => exact wpAny_pure ⟨rfl, h₃⟩
    | true =>
      exact wpAny_bind (wpAny_bind (wpAny_mono h₃ (fun x s₄ h₄ => wpAny_bind (wpAny_mono h₄ (fun _ s₅ h₅ => wpAny_pure (wpAny_pure ⟨rfl, h₅⟩)) fun _ _ h' => h')) fun _ _ h' => h'))

section
variable {X : Cx}
/-- [elt for target in iter if ..]: D the new list; W by the turn and a measure, Nx what a turn is to reach -/
def tLc (wi : TI) (g : TG) (tt : TT) (te : TE) (vs : List Nat) : TE := fun σ H Q => wi σ H fun J H1 => ∀ D, H1 D = none → ∃ W : Nat → Nat → Hp → Prop, (∃ m, W 0 m (upd H1 D (.lst []))) ∧ ∀ i m H, W i m H →
  (J.stop i H ∧ Q (.ref D) H) ∨ (J.go i H ∧ ∃ Nx : Hp → Prop, (∀ H', Nx H' → ∃ m', m' < m ∧ W (i + 1) m' H') ∧ ∀ x H', J.yld i H x H' → g x (wipe σ vs) H' fun σ2 H2 => wipe σ2 vs = wipe σ vs ∧ tt σ2 H2 fun b H3 =>
    if b = true then te σ2 H3 fun y H4 => ∃ acc, H4 D = some (.lst acc) ∧ acc.length < sizeLine ∧ Nx (upd H4 D (.lst (acc ++ [y]))) else Nx H3)
theorem lc_core {pins : List (Addr × Obj)} {s : Shared} {σ : St} {H : Hp} {Q : VK} {elt tg iter : Expr} {ifs : List Expr} {scope : Scope} {own : List (Str × Nat)} {pos pos' : Pos} {wi : TI} {g : TG} {tt : TT} {te : TE} {use : Option (Value → Sem Unit)} {Qf : Value → Shared → Prop}
    (hc : X.calm = true) (hN : X.N.Nodup) (I : Inv X pins σ H s) (hi : PI X tg iter wi) (ok : BlkOk X.N X.env.scope scope own)
    (hg : ∀ (s : Shared) (H : Hp) (C : Addr) (cl : List (Str × Addr)) (fp : List Addr), PG (X.blk s H scope (compEnvC scope cl C X.env) fp) tg g) (ht : ∀ (s : Shared) (H : Hp) (C : Addr) (cl : List (Str × Addr)) (fp : List Addr), PTs (X.blk s H scope (compEnvC scope cl C X.env) fp) ifs tt)
    (he : ∀ (s : Shared) (H : Hp) (C : Addr) (cl : List (Str × Addr)) (fp : List Addr), PE (X.blk s H scope (compEnvC scope cl C X.env) fp) elt te) (hs : ∀ x, foldedSetIterable iter X.env x = pure x)
    (h : tLc wi g tt te (own.map (·.2)) σ H Q)
    (hRR : ∀ D C s' m H', Inv X pins σ H' s' → Q (.ref D) H' → s'.heap.Ns C m → FpOk X pins H' C → compPost (model X.prog X.w) X.A X.xe use Qf (.ref D) C (.ok .next) s') :
    wpAny (model X.prog X.w) X.A (comprehension (.ListComp elt [⟨tg, iter, ifs, 0⟩] scope pos) scope X.env pos' (newList []) false (eval iter X.env) use) Qf X.xe s := by
  have hfree : ∀ y ∈ scope.names, y.2 = .free → ∃ c, X.env.cells.lookup y.1 = some c := fun y hy e => by
    rcases ok.free y hy e with k | k
    · exact I.ok.has _ (.inl k)
    · exact I.ok.has _ (.inr k)
  refine wpAny_comprehension_free (use := use) rfl hs (closure_ok hfree) ok.kind (fun y hy e => by rw [ok.uniq y hy, e])
    (thn (hi pins s σ H _ I h) fun xv s1 hx => thn hx fun itv s2 h2 => ?_)
  obtain ⟨it, fp, tn, J, H2, e, I2, T, st2, f2, q⟩ := h2
  subst e
  refine wpAny_newObj_type (newEnv_comp ?_) (by show 0 ≤ sizeLine; decide)
  generalize hD : s2.heap.objs.size = D
  have hDn : H2 D = none := I2.hok.fresh (Nat.le_of_eq hD)
  obtain ⟨W, ⟨m0, w0⟩, turn⟩ := q D hDn
  -- the new list
  generalize hs3 : ({ s2 with heap := s2.heap.push { cls := .type "list", data := .seq ([] : List Value).toArray } } : Shared) = s3
  have I3 : Inv X pins σ (upd H2 D (.lst [])) s3 := by
    rw [← hs3]
    refine I2.laid (t' := s2.toks) (fun b o e => Heap.get?_push_of_some _ e) (Nat.le_of_eq hD) ⟨Nat.zero_le _, [], 0, .nil, ?_⟩
    rw [← hD]
    exact Heap.get?_push_size _ rfl
  have h3 : s3.heap = s2.heap.push { cls := .type "list", data := .seq ([] : List Value).toArray } := by rw [← hs3]
  have sz : ∀ b ∈ fp, b < s2.heap.objs.size := fun b hb => by
    obtain ⟨o, e, _⟩ := T.obj _ _ st2 b hb
    exact Heap.lt_size e
  have f3 : ∀ b ∈ fp, FpOk X pins (upd H2 D (.lst [])) b ∧ b < s3.heap.objs.size := fun b hb => by
    have hlt := sz b hb
    refine ⟨⟨?_, (f2 b hb).2⟩, by rw [h3, Heap.size_push]; exact Nat.lt_succ_of_lt hlt⟩
    rw [upd_ne (by rw [← hD]; exact Nat.ne_of_lt hlt)]
    exact (f2 b hb).1
  have st3 : tn 0 s3.heap := T.keep _ _ _ st2 fun b _ o e => by rw [h3]; exact Heap.get?_push_of_some _ e
  have I4 := block_start I3 ok hN f3
  have pg := hg s3 (upd H2 D (.lst [])) s3.heap.objs.size (cellsFrom (s3.heap.objs.size + 1) scope.names (cloFrom X.env.cells scope.names [])) fp
  have pt := ht s3 (upd H2 D (.lst [])) s3.heap.objs.size (cellsFrom (s3.heap.objs.size + 1) scope.names (cloFrom X.env.cells scope.names [])) fp
  have pe := he s3 (upd H2 D (.lst [])) s3.heap.objs.size (cellsFrom (s3.heap.objs.size + 1) scope.names (cloFrom X.env.cells scope.names [])) fp
  show codeAny _ _ (.compStart (.ListComp elt [⟨tg, iter, ifs, 0⟩] scope pos) 0 (.ref it) (.ref D) (compEnvC scope (cellsFrom (s3.heap.objs.size + 1) scope.names (cloFrom X.env.cells scope.names [])) s3.heap.objs.size X.env)) (compPost (model X.prog X.w) X.A X.xe use Qf (.ref D) s3.heap.objs.size) { s3 with heap := pushCells (s3.heap.push { cls := .type "dict", data := .dict #[] }) scope.names }
  have nfp : ∀ b ∈ fp, (upd H2 D (.lst [])) b = none := fun b hb => (f3 b hb).1.1
  generalize hce : compEnvC scope (cellsFrom (s3.heap.objs.size + 1) scope.names (cloFrom X.env.cells scope.names [])) s3.heap.objs.size X.env = ce at I4 pg pt pe ⊢
  have cL : ce.locals = s3.heap.objs.size := by subst hce; rfl
  generalize hH3 : upd H2 D (.lst []) = H3 at I3 I4 pg pt pe w0 nfp f3
  generalize hs4 : ({ s3 with heap := pushCells (s3.heap.push { cls := .type "dict", data := .dict #[] }) scope.names } : Shared) = s4 at I4 ⊢
  have st4 : tn 0 s4.heap := T.keep _ _ _ st3 fun b _ o e => by rw [← hs4]; exact pushCells_keeps _ _ _ _ (Heap.get?_push_of_some _ e)
  have stat : ∀ {σ' : St} {H' : Hp} {s' : Shared}, Inv (X.blk s3 H3 scope ce fp) [] σ' H' s' → (∀ b ∈ fp, H' b = none) → ∀ b ∈ fp, FpOk (X.blk s3 H3 scope ce fp) [] H' b := fun {σ' H' s'} I' hn b hb =>
    ⟨hn b hb, (I'.ok.exf b hb).1, I'.ok.exfs b hb, .inl hb, fun x c e => (I'.ok.exf b hb).2 x c e, fun p hp => absurd (show p ∈ ([] : List (Addr × Obj)) ++ [] from hp) (by simp)⟩
  have loop : codeAny (model X.prog X.w) X.A (.compLoop (.ListComp elt [⟨tg, iter, ifs, 0⟩] scope pos) 0 (.ref it) (.ref D) ce) (compPost (model X.prog X.w) X.A X.xe use Qf (.ref D) s3.heap.objs.size) s4 := by
    refine compLoop_any (fun n s' => ∃ i H', Inv (X.blk s3 H3 scope ce fp) [] (wipe σ (own.map (·.2))) H' s' ∧ tn i s'.heap ∧ (∀ b ∈ fp, H' b = none) ∧ W i n H') ?_ m0 ⟨0, H3, I4, st4, nfp, w0⟩
    rintro n s5 ⟨i, H5, I5, st5, n5, w5⟩
    rcases turn i n H5 w5 with ⟨stop, qq⟩ | ⟨go, Nx, hNx, step⟩
    · have td := T.done (X.blk s3 H3 scope ce fp) rfl rfl rfl hc i [] s5 _ H5 (fun _ _ => False) I5 (stat I5 n5) st5 stop
      refine thnF td fun r s6 ⟨hr, I6⟩ => ?_
      subst hr
      -- back in the def's context
      have I7 : Inv X pins σ H5 s6 := I3.call' (ch := fp) I6.os I6.base I6.hok I6.bare fun b hb => ⟨(f3 b hb).1.2.2.2.1, (f3 b hb).1.2.1, (f3 b hb).1.2.2.2.2.1, (f3 b hb).1.2.2.2.2.2⟩
      have nC : H5 s3.heap.objs.size = none := by
        have z : H5 ce.locals = none := I6.free
        rw [cL] at z
        exact z
      obtain ⟨m, hn, _⟩ := I6.loc
      have hn : s6.heap.Ns ce.locals m := hn
      rw [cL] at hn
      exact hRR D s3.heap.objs.size s6 m H5 I7 qq hn (I3.fpOk (Nat.le_refl _) nC)
    · have ti := T.item (X.blk s3 H3 scope ce fp) rfl rfl rfl hc i [] s5 _ H5 (fun _ _ => False) I5 (stat I5 n5) st5 go
      refine thnF ti fun r s6 ⟨u, hr, h6⟩ => ?_
      subst hr
      refine thnF h6 fun _ s7 ⟨x, H7, I7, r7, y7, st7, n7⟩ => ?_
      have I7' := I7.pinned (stat I7 n7) (T.obj _ _ st7)
      refine thnF (pg _ s7 _ H7 x u _ I7' r7 (step x H7 y7)) fun _ s8 ⟨σ8, H8, I8, hw8, q8⟩ => ?_
      refine thnF (pt _ s8 σ8 H8 _ I8 q8) fun b s9 ⟨H9, I9, q9⟩ => ?_
      -- the turn's end
      have fin : ∀ {s' : Shared} {H' : Hp}, Inv (X.blk s3 H3 scope ce fp) ([] ++ pinsAt fp s7.heap) σ8 H' s' → Nx H' → ∃ m, m < n ∧ ∃ i H', Inv (X.blk s3 H3 scope ce fp) [] (wipe σ (own.map (·.2))) H' s' ∧ tn i s'.heap ∧ (∀ b ∈ fp, H' b = none) ∧ W i m H' := fun {s' H'} I' nx => by
        obtain ⟨m', hm, w'⟩ := hNx H' nx
        have pin' : ∀ b ∈ fp, ∀ o, s7.heap.get? b = some o → s'.heap.get? b = some o ∧ H' b = none := fun b hb o e =>
          let z := I'.pin (b, o) (List.mem_append_right _ (List.mem_append_right _ (mem_pinsAt hb e)))
          ⟨z.1, z.2.1⟩
        have hl : (wipe σ (own.map (·.2))).length = σ8.length := by rw [← hw8, wipe_length]
        refine ⟨m', hm, i + 1, H', (I'.unpinned (pins := [])).weak hl (fun j v e => ?_), T.keep _ _ _ st7 fun b hb o e => (pin' b hb o e).1, fun b hb => ?_, w'⟩
        · rw [← hw8] at e
          exact (wipe_some e).1
        · obtain ⟨o, e, _⟩ := T.obj _ _ st7 b hb
          exact (pin' b hb o e).2
      cases b with
      | false =>
        simp only [Bool.false_eq_true, if_false] at q9 ⊢
        exact fin I9 q9
      | true =>
        simp only [if_true] at q9 ⊢
        refine thnF (pe _ s9 σ8 H9 _ I9 q9) fun z s10 ⟨yv, H10, I10, r10, acc, hD10, hz10, nx⟩ => ?_
        exact app_ok (X := X.blk s3 H3 scope ce fp) I10 hD10 hz10 r10 fun s11 I11 => fin I11 nx
  exact codeAny_compStart_list loop (T.self X.A 0 _ _ _ st4 loop)
/-- as a value -/
theorem pe_lc {elt tg iter : Expr} {ifs : List Expr} {scope : Scope} {own : List (Str × Nat)} {pos : Pos} {wi : TI} {g : TG} {tt : TT} {te : TE} (hc : X.calm = true) (hN : X.N.Nodup) (hi : PI X tg iter wi) (ok : BlkOk X.N X.env.scope scope own)
    (hg : ∀ (s : Shared) (H : Hp) (C : Addr) (cl : List (Str × Addr)) (fp : List Addr), PG (X.blk s H scope (compEnvC scope cl C X.env) fp) tg g) (ht : ∀ (s : Shared) (H : Hp) (C : Addr) (cl : List (Str × Addr)) (fp : List Addr), PTs (X.blk s H scope (compEnvC scope cl C X.env) fp) ifs tt)
    (he : ∀ (s : Shared) (H : Hp) (C : Addr) (cl : List (Str × Addr)) (fp : List Addr), PE (X.blk s H scope (compEnvC scope cl C X.env) fp) elt te) (hs : ∀ x, foldedSetIterable iter X.env x = pure x := by intro _; rfl) :
    PE X (.ListComp elt [⟨tg, iter, ifs, 0⟩] scope pos) (tLc wi g tt te (own.map (·.2))) := by
  intro pins s σ H Q I h
  rw [eval_ListComp]
  refine lc_core hc hN I hi ok hg ht he hs h fun D C s' m H' I' q hn f => ⟨m, hn, fun h'' sb => ?_⟩
  obtain ⟨f0, f1, f2, f3, f4, f5⟩ := f
  exact ⟨.ref D, H', I'.turned (t' := s'.toks) (fun b o hb e => (sb.2 b hb).trans e) f0 f1 f3 f4 f5, rfl, q⟩
end

/-- over a list that the block leaves as it is -/
theorem lc_list {K : PySem.W.Frag} {a : Addr} {xs : List V} {g : TG} {tt : TT} {te : TE} {vs : List Nat} {σ : St} {H1 : Hp} {D : Addr} {Qd : Hp → Prop} (Pv : Nat → Hp → Prop) (h0 : Pv 0 (upd H1 D (.lst []))) (hl : ∀ i H, i ≤ xs.length → Pv i H → SqL K H a xs)
    (hs : ∀ i x H, xs[i]? = some x → Pv i H → g x (wipe σ vs) H fun σ2 H2 => wipe σ2 vs = wipe σ vs ∧ tt σ2 H2 fun b H3 =>
      if b = true then te σ2 H3 fun y H4 => ∃ acc, H4 D = some (.lst acc) ∧ acc.length < sizeLine ∧ Pv (i + 1) (upd H4 D (.lst (acc ++ [y]))) else Pv (i + 1) H3) (hd : ∀ H, Pv xs.length H → Qd H) :
    ∃ W : Nat → Nat → Hp → Prop, (∃ m, W 0 m (upd H1 D (.lst []))) ∧ ∀ i m H, W i m H →
      ((Itl K a).stop i H ∧ Qd H) ∨ ((Itl K a).go i H ∧ ∃ Nx : Hp → Prop, (∀ H', Nx H' → ∃ m', m' < m ∧ W (i + 1) m' H') ∧ ∀ x H', (Itl K a).yld i H x H' → g x (wipe σ vs) H' fun σ2 H2 => wipe σ2 vs = wipe σ vs ∧ tt σ2 H2 fun b H3 =>
        if b = true then te σ2 H3 fun y H4 => ∃ acc, H4 D = some (.lst acc) ∧ acc.length < sizeLine ∧ Nx (upd H4 D (.lst (acc ++ [y]))) else Nx H3) := by
  refine ⟨fun i m H => m = xs.length - i ∧ i ≤ xs.length ∧ Pv i H, ⟨xs.length, by simp, Nat.zero_le _, h0⟩, ?_⟩
  rintro i m H ⟨rfl, hi, p⟩
  have q := hl i H hi p
  by_cases hlt : i < xs.length
  · refine .inr ⟨⟨xs, xs[i], q, by simp [hlt]⟩, Pv (i + 1), fun H' p' => ⟨xs.length - (i + 1), by omega, rfl, hlt, p'⟩, fun x H' y => ?_⟩
    obtain ⟨e, y⟩ := y
    subst e
    exact hs i x _ (y xs q) p
  · have e : i = xs.length := by omega
    subst e
    exact .inl ⟨⟨xs, q, Nat.le_refl _⟩, hd H p⟩
def blkC (N : List Str) (sc scope : Scope) (own : List (Str × Nat)) : Bool :=
  (match scope.kind with | .function => true | _ => false) && (scope.names.all fun y => decide (scope.names.lookup y.1 = some y.2)) && (own.all fun p => decide (N[p.2]? = some p.1)) &&
    (scope.names.all fun y => match y.2 with
      | .free => (match sc.names.lookup y.1 with | some .cell => true | some .free => true | _ => false)
      | .local => decide (y.1 ∈ own.map (·.1)) || decide (y.1 ∉ N)
      | .cell => decide (y.1 ∈ own.map (·.1)) || decide (y.1 ∉ N)
      | _ => true)
theorem blkOk_by {N : List Str} {sc scope : Scope} {own : List (Str × Nat)} (h : blkC N sc scope own = true) : BlkOk N sc scope own := by
  unfold blkC at h
  simp only [Bool.and_eq_true, List.all_eq_true, decide_eq_true_eq] at h
  obtain ⟨⟨⟨h1, h2⟩, h3⟩, h4⟩ := h
  refine ⟨?_, h2, h3, fun y hy e => ?_, fun y hy e => ?_⟩
  · split at h1
    · assumption
    · cases h1
  · have q := h4 y hy
    simp only [e] at q
    split at q <;> first | exact .inl (by assumption) | exact .inr (by assumption) | cases q
  · have q := h4 y hy
    rcases e with e | e <;> (simp only [e, Bool.or_eq_true, decide_eq_true_eq] at q; exact q)
end L2

set_option Elab.async false
set_option linter.all false
set_option maxRecDepth 100000
set_option maxHeartbeats 2000000
namespace L2
open PySem PySem.Spec PyProof.Rows
section
variable {X : Cx} {pins : List (Addr × Obj)} {σ : St} {H : Hp} {s : Shared}
end
section
variable {X : Cx}
end
section
variable {X : Cx} {pins : List (Addr × Obj)} {σ : List (Option V)} {H H' : Hp} {s : Shared} {h' : Heap}
end
end L2

set_option Elab.async false
set_option linter.all false
set_option maxRecDepth 100000
set_option maxHeartbeats 2000000
namespace HT
open PySem PySem.Spec PyProof.Rows
open Builtin Builtin.Str
section
variable {prog : Program} {w : World} {A : Around} {E : Value → Shared → Prop} {s : Shared}
end
end HT

set_option Elab.async false
set_option linter.all false
set_option maxRecDepth 100000
set_option maxHeartbeats 2000000
namespace L2
open PySem PySem.Spec PyProof.Rows
section
variable {X : Cx}
end
end L2

set_option Elab.async false
set_option linter.all false
set_option maxRecDepth 100000
set_option maxHeartbeats 2000000
namespace L2
open PySem PySem.Spec PyProof.Rows
/-! ### str.zfill, a block over a text -/
section
variable {X : Cx}
end
theorem lc_str {x : Str} {g : TG} {tt : TT} {te : TE} {vs : List Nat} {σ : St} {H1 : Hp} {D : Addr} {Qd : Hp → Prop} (Pv : Nat → Hp → Prop) (h0 : Pv 0 (upd H1 D (.lst [])))
    (hs : ∀ i c H, x.cps[i]? = some c → Pv i H → g (.str ⟨#[c]⟩) (wipe σ vs) H fun σ2 H2 => wipe σ2 vs = wipe σ vs ∧ tt σ2 H2 fun b H3 =>
      if b = true then te σ2 H3 fun y H4 => ∃ acc, H4 D = some (.lst acc) ∧ acc.length < sizeLine ∧ Pv (i + 1) (upd H4 D (.lst (acc ++ [y]))) else Pv (i + 1) H3) (hd : ∀ H, Pv x.cps.size H → Qd H) :
    ∃ W : Nat → Nat → Hp → Prop, (∃ m, W 0 m (upd H1 D (.lst []))) ∧ ∀ i m H, W i m H →
      ((Its x).stop i H ∧ Qd H) ∨ ((Its x).go i H ∧ ∃ Nx : Hp → Prop, (∀ H', Nx H' → ∃ m', m' < m ∧ W (i + 1) m' H') ∧ ∀ y H', (Its x).yld i H y H' → g y (wipe σ vs) H' fun σ2 H2 => wipe σ2 vs = wipe σ vs ∧ tt σ2 H2 fun b H3 =>
        if b = true then te σ2 H3 fun y H4 => ∃ acc, H4 D = some (.lst acc) ∧ acc.length < sizeLine ∧ Nx (upd H4 D (.lst (acc ++ [y]))) else Nx H3) := by
  refine ⟨fun i m H => m = x.cps.size - i ∧ i ≤ x.cps.size ∧ Pv i H, ⟨x.cps.size, by simp, Nat.zero_le _, h0⟩, ?_⟩
  rintro i m H ⟨rfl, hi, p⟩
  by_cases hlt : i < x.cps.size
  · refine .inr ⟨hlt, Pv (i + 1), fun H' p' => ⟨x.cps.size - (i + 1), by omega, rfl, hlt, p'⟩, fun y H' e => ?_⟩
    obtain ⟨rfl, c, hc, rfl⟩ := e
    exact hs i c _ hc p
  · have e : i = x.cps.size := by omega
    subst e
    exact .inl ⟨Nat.le_refl _, hd H p⟩
end L2

set_option Elab.async false
set_option linter.all false
set_option maxRecDepth 100000
set_option maxHeartbeats 2000000
namespace L2
open PySem PySem.Spec PyProof.Rows
/-! ### all(list of bools) -/
theorem vals_bl : ∀ {ps : List Bool} {us : List Value}, Vals (ps.map V.bl) us → us = ps.map Value.bool
  | [], _, .nil => rfl
  | p :: ps, _, .cons r rr => by
    cases r
    rw [vals_bl rr]
    rfl
theorem all_at (bs : List Bool) : (List.range bs.length).all (fun i => bs.getD i false) = bs.all id := by
  have e : (List.range bs.length).map (fun i => bs.getD i false) = bs := by
    apply List.ext_getElem?
    intro i
    by_cases h : i < bs.length
    · rw [List.getElem?_map, List.getElem?_range h, List.getElem?_eq_getElem h]
      show some (bs.getD i false) = _
      rw [List.getD_eq_getElem?_getD, List.getElem?_eq_getElem h]
      rfl
    · rw [List.getElem?_eq_none (by simp; omega), List.getElem?_eq_none (by omega)]
  conv => rhs; rw [← e, List.all_map]
  rfl
section
variable {X : Cx}
theorem call_allL (hc : X.calm = true) : CallR X (.builtin "all") (fun xs H Q => ∃ (p : Addr) (bs : List Bool), xs = [.ref p] ∧ SqL X.K H p (bs.map V.bl) ∧ Q (.bl (bs.all id)) H) := by
  intro pins s σ H xs us Q I r h
  obtain ⟨p, bs, rfl, hq, q⟩ := h
  cases r with
  | cons r rr =>
    cases rr
    cases r
    obtain ⟨its, rv, p', hz⟩ := I.list hq
    have ei := vals_bl rv
    subst ei
    have hlt : p < s.heap.objs.size := by
      obtain ⟨o, _, e1, _⟩ := p'
      exact Heap.lt_size e1
    have I3 : Inv X pins σ H { s with heap := s.heap.push { cls := .type "list_iterator", data := .fields #[.ref p, .int 0 0] } } := I.kept fun b ob e => Heap.get?_push_of_some _ e
    obtain ⟨f0, f1, f2, f3, f4, f5⟩ := I.fpOk (Nat.le_refl _) (I.hok.fresh (Nat.le_refl _))
    refine call_all_walk (wpAny_pyIter_list p'.isList ?_)
    refine ⟨_, _, _, _, _, _, fun i => bs.getD i false, rfl, Walks.list (A := X.A.in1) (I.ok.hd hc) s.heap.objs.size p (Nat.ne_of_lt hlt) (bs.map Value.bool).toArray, ⟨⟨_, Heap.get?_push_size _ rfl, rfl, rfl⟩, ?_⟩, ?_, fun h' tk k => ?_⟩
    · obtain ⟨o, ho, r⟩ := p'.isList
      exact ⟨o, Heap.get?_push_of_some _ ho, r⟩
    · intro i v s2 Q2 E2 hv hq2
      have hv : (bs.map Value.bool)[i]? = some v := by simpa using hv
      rw [List.getElem?_map] at hv
      cases eb : bs[i]? with
      | none => rw [eb] at hv; cases hv
      | some b =>
        rw [eb] at hv
        have hv : Value.bool b = v := Option.some.inj hv
        subst hv
        have hq2 : Q2 (bs.getD i false) s2 := hq2
        rw [List.getD_eq_getElem?_getD, eb] at hq2
        exact wpAny_truthy_bool hq2
    · have e : (bs.map Value.bool).toArray.size = bs.length := by simp
      rw [e, all_at]
      exact ⟨.bl (bs.all id), H, I3.turned (t' := tk) (fun b o hb e => k b o (by simpa using hb) e) f0 f1 f3 f4 f5, rfl, q⟩
end
end L2

set_option Elab.async false
set_option linter.all false
set_option maxRecDepth 100000
set_option maxHeartbeats 2000000
namespace L2
open PySem PySem.Spec PyProof.Rows
section
variable {X : Cx}
/-- list + list, of lists that are only read too -/
def rCatL (K : PySem.W.Frag) : R2 := fun x y H Q => ∃ l b xs zs, x = .ref l ∧ y = .ref b ∧ SqL K H l xs ∧ SqL K H b zs ∧ xs.length + zs.length ≤ sizeLine ∧ ∀ p, H p = none → Q (.ref p) (upd H p (.lst (xs ++ zs)))
theorem op_catL : OpR X (binaryOp .Add) (rCatL X.K) := by
  intro pins s σ H x y v u Q I rx ry h
  obtain ⟨l, b, xs, zs, rfl, rfl, hl, hb, hz, q⟩ := h
  cases rx
  cases ry
  obtain ⟨its, rv, ⟨⟨c1, d1, dt1, sl1⟩, n, ho, hc, hdn, hd⟩, _⟩ := I.list hl
  obtain ⟨its2, rv2, ⟨⟨c2, d2, dt2, sl2⟩, n2, ho2, hc2, hdn2, hd2⟩, _⟩ := I.list hb
  simp only at hc hd hdn hc2 hd2 hdn2
  subst hc hd hdn hc2 hd2 hdn2
  have l1 := rv.length
  have l2 := rv2.length
  have ea : its.toArray ++ its2.toArray = (its ++ its2).toArray := by simp
  refine concat_meets ⟨_, ho, rfl⟩ ⟨_, ho2, rfl⟩ noFill_list_add seq_list_add PySem.F.slot_list_add PySem.F.entry_list_add (PySem.F.args_list_add_2 _ _) (list_addW l b its.toArray its2.toArray n n2 none none sl1 sl2 (by rw [List.size_toArray, List.size_toArray]; omega)) ⟨ho, ho2, ?_⟩
  rw [ea]
  exact ⟨.ref _, _, I.lnew (t' := s.toks) (rv.append rv2) (by rw [List.length_append]; omega), rfl, q _ I.fresh⟩
end
end L2

set_option linter.all false
namespace Vm
open Sw
end Vm

set_option linter.all false
namespace Um
open Sw
def cf (c : Nat) : Nat := if 194 ≤ c ∧ c ≤ 223 then 1 else if 224 ≤ c ∧ c ≤ 239 then 2 else if 240 ≤ c ∧ c ≤ 244 then 3 else 0
def ls (c : Nat) : Nat := if c = 224 then 160 else if c = 240 then 144 else 128
def hs (c : Nat) : Nat := if c = 237 then 159 else if c = 244 then 143 else 191
theorem leads_eq : ∀ c, c < 256 → leads c = if c < 128 then some (0, 0, 0) else if cf c = 0 then none else some (cf c, ls c, hs c) := by decide +kernel
/-- further bytes one by one, the next from lo to hi: the first that is wrong -/
def fbad : Nat → Nat → Nat → Bytes → Option Nat
  | _, _, _, [] => none
  | lo, hi, p, c :: r => if c.toNat < lo ∨ hi < c.toNat then some p else fbad 128 191 (p + 1) r
end Um

set_option linter.all false
namespace Hm
open Sw
end Hm

set_option linter.all false
namespace Pm
open Sw Hm
end Pm

set_option linter.all false
set_option maxHeartbeats 1000000
namespace Pm
open Sw Hm
/-! ### bytes of UTF-8 -/
theorem follow_zero {lo hi x p y : Nat} {b r : Bytes} (h : follow 0 lo hi x p b = .ok (y, r)) : y = x ∧ r = b := by
  unfold follow at h
  injection h with h
  injection h with h1 h2
  exact ⟨h1.symm, h2.symm⟩
theorem follow_succ {k lo hi x p y : Nat} {b r : Bytes} (h : follow (k + 1) lo hi x p b = .ok (y, r)) : ∃ (c : UInt8) (b' : Bytes), b = c :: b' ∧ lo ≤ c.toNat ∧ c.toNat ≤ hi ∧ follow k 128 191 (64 * x + c.toNat % 64) (p + 1) b' = .ok (y, r) := by
  cases b with
  | nil => unfold follow at h; cases h
  | cons c b =>
    unfold follow at h
    by_cases hc : lo ≤ c.toNat ∧ c.toNat ≤ hi
    · rw [if_pos hc] at h
      exact ⟨c, b, rfl, hc.1, hc.2, h⟩
    · rw [if_neg hc] at h
      cases h
theorem cf_facts {c : Nat} (h : Um.cf c ≠ 0) : (Um.cf c = 1 ∧ 194 ≤ c ∧ c ≤ 223) ∨ (Um.cf c = 2 ∧ 224 ≤ c ∧ c ≤ 239) ∨ (Um.cf c = 3 ∧ 240 ≤ c ∧ c ≤ 244) := by
  unfold Um.cf at h ⊢
  by_cases h1 : 194 ≤ c ∧ c ≤ 223
  · rw [if_pos h1]; exact .inl ⟨rfl, h1⟩
  · rw [if_neg h1] at h ⊢
    by_cases h2 : 224 ≤ c ∧ c ≤ 239
    · rw [if_pos h2]; exact .inr (.inl ⟨rfl, h2⟩)
    · rw [if_neg h2] at h ⊢
      by_cases h3 : 240 ≤ c ∧ c ≤ 244
      · rw [if_pos h3]; exact .inr (.inr ⟨rfl, h3⟩)
      · rw [if_neg h3] at h
        exact absurd rfl h
theorem of_eq {n : Nat} {c : UInt8} (h : n = c.toNat) : UInt8.ofNat n = c := by rw [h, UInt8.ofNat_toNat]
theorem scalar_enc {p y : Nat} {b r : Bytes} (h : scalarAt p b = .ok (y, r)) : b = utf8One y ++ r ∧ isScalar y = true := by
  unfold scalarAt at h
  cases b with
  | nil => cases h
  | cons c0 b =>
    dsimp only at h
    have hl := Um.leads_eq c0.toNat c0.toNat_lt
    by_cases h1 : c0.toNat < 128
    · rw [if_pos h1] at hl
      rw [hl] at h
      obtain ⟨e1, e2⟩ := follow_zero h
      have e1 : y = c0.toNat := e1
      subst e1 e2
      unfold utf8One isScalar
      rw [if_pos (by omega), of_eq rfl, decide_eq_true (show c0.toNat < 55296 by omega)]
      exact ⟨rfl, rfl⟩
    · rw [if_neg h1] at hl
      by_cases h2 : Um.cf c0.toNat = 0
      · rw [if_pos h2] at hl
        rw [hl] at h
        cases h
      · rw [if_neg h2] at hl
        rw [hl] at h
        dsimp only at h
        have hsc : ∀ {y : Nat}, (y < 55296 ∨ (57344 ≤ y ∧ y ≤ 1114111)) → isScalar y = true := fun {y} q => by
          unfold isScalar
          rcases q with q | q
          · rw [decide_eq_true q]; rfl
          · rw [decide_eq_true q.1, decide_eq_true q.2]; simp
        rcases cf_facts h2 with ⟨f1, f2, f3⟩ | ⟨f1, f2, f3⟩ | ⟨f1, f2, f3⟩
        · rw [f1] at h
          obtain ⟨c1, b1, rfl, l1, u1, h⟩ := follow_succ h
          obtain ⟨e1, e2⟩ := follow_zero h
          subst e2
          have m1 : 128 ≤ c1.toNat ∧ c1.toNat ≤ 191 := by
            unfold Um.ls at l1
            unfold Um.hs at u1
            rw [if_neg (by omega), if_neg (by omega)] at l1 u1
            exact ⟨l1, u1⟩
          simp only [firstBits] at e1
          refine ⟨?_, hsc (by omega)⟩
          unfold utf8One
          rw [if_neg (by omega), if_pos (by omega), of_eq (show 0xC0 + y / 64 = c0.toNat by omega), of_eq (show 0x80 + y % 64 = c1.toNat by omega)]
          rfl
        · rw [f1] at h
          obtain ⟨c1, b1, rfl, l1, u1, h⟩ := follow_succ h
          obtain ⟨c2, b2, rfl, l2, u2, h⟩ := follow_succ h
          obtain ⟨e1, e2⟩ := follow_zero h
          subst e2
          have m1 : 128 ≤ c1.toNat ∧ c1.toNat ≤ 191 ∧ (c0.toNat = 224 → 160 ≤ c1.toNat) ∧ (c0.toNat = 237 → c1.toNat ≤ 159) := by
            unfold Um.ls at l1
            unfold Um.hs at u1
            by_cases q1 : c0.toNat = 224
            · rw [if_pos q1] at l1
              rw [if_neg (by omega), if_neg (by omega)] at u1
              omega
            · rw [if_neg q1, if_neg (by omega)] at l1
              by_cases q2 : c0.toNat = 237
              · rw [if_pos q2] at u1
                omega
              · rw [if_neg q2, if_neg (by omega)] at u1
                omega
          simp only [firstBits] at e1
          refine ⟨?_, hsc (by omega)⟩
          unfold utf8One
          rw [if_neg (by omega), if_neg (by omega), if_pos (by omega), of_eq (show 0xE0 + y / 4096 = c0.toNat by omega), of_eq (show 0x80 + y / 64 % 64 = c1.toNat by omega), of_eq (show 0x80 + y % 64 = c2.toNat by omega)]
          rfl
        · rw [f1] at h
          obtain ⟨c1, b1, rfl, l1, u1, h⟩ := follow_succ h
          obtain ⟨c2, b2, rfl, l2, u2, h⟩ := follow_succ h
          obtain ⟨c3, b3, rfl, l3, u3, h⟩ := follow_succ h
          obtain ⟨e1, e2⟩ := follow_zero h
          subst e2
          have m1 : 128 ≤ c1.toNat ∧ c1.toNat ≤ 191 ∧ (c0.toNat = 240 → 144 ≤ c1.toNat) ∧ (c0.toNat = 244 → c1.toNat ≤ 143) := by
            unfold Um.ls at l1
            unfold Um.hs at u1
            rw [if_neg (by omega)] at l1 u1
            by_cases q1 : c0.toNat = 240
            · rw [if_pos q1] at l1
              rw [if_neg (by omega)] at u1
              omega
            · rw [if_neg q1] at l1
              by_cases q2 : c0.toNat = 244
              · rw [if_pos q2] at u1
                omega
              · rw [if_neg q2] at u1
                omega
          simp only [firstBits] at e1
          refine ⟨?_, hsc (by omega)⟩
          unfold utf8One
          rw [if_neg (by omega), if_neg (by omega), if_neg (by omega), of_eq (show 0xF0 + y / 262144 = c0.toNat by omega), of_eq (show 0x80 + y / 4096 % 64 = c1.toNat by omega), of_eq (show 0x80 + y / 64 % 64 = c2.toNat by omega), of_eq (show 0x80 + y % 64 = c3.toNat by omega)]
          rfl
theorem le_succ (k n : Nat) : le (k + 1) n = UInt8.ofNat (n % 256) :: le k (n / 256) := by
  unfold le
  rw [List.range_succ_eq_map, List.map_cons, List.map_map]
  congr 1
  · rw [Nat.pow_zero, Nat.div_one]
  · apply List.map_congr_left
    intro i _
    show UInt8.ofNat (n / 256 ^ (i + 1) % 256) = UInt8.ofNat (n / 256 / 256 ^ i % 256)
    rw [Nat.pow_succ, Nat.mul_comm, ← Nat.div_div_eq_div_mul]
theorem le_len (k n : Nat) : (le k n).length = k := by
  unfold le
  rw [List.length_map, List.length_range]
end Pm

set_option linter.all false
set_option maxHeartbeats 1000000
namespace Pm
open Sw Hm
end Pm

set_option linter.all false
set_option maxHeartbeats 1000000
namespace Pm
open Sw Hm
end Pm

set_option linter.all false
set_option maxHeartbeats 1000000
namespace Pm
open Sw Hm
end Pm

set_option linter.all false
set_option maxHeartbeats 1000000
namespace Pm
open Sw Hm
end Pm

set_option linter.all false
set_option maxHeartbeats 1000000
namespace Pm
open Sw Hm
end Pm

set_option linter.all false
set_option maxHeartbeats 1000000
namespace Pm
open Sw Hm
end Pm

set_option linter.all false
set_option maxHeartbeats 1000000
namespace Pm
open Sw Hm
end Pm

set_option linter.all false
set_option maxHeartbeats 1000000
namespace Pm
open Sw Hm
end Pm

set_option linter.all false
set_option maxHeartbeats 1000000
namespace Pm
open Sw Hm
end Pm

set_option linter.all false
set_option maxHeartbeats 1000000
namespace Pm
open Sw Hm
theorem one_len (c : Nat) : 1 ≤ (utf8One c).length := by
  unfold utf8One
  split
  · exact Nat.le_refl 1
  · split
    · show 1 ≤ 2; omega
    · split
      · show 1 ≤ 3; omega
      · show 1 ≤ 4; omega
end Pm

set_option linter.all false
set_option maxHeartbeats 1000000
namespace Pm
open Sw Hm
theorem le_cons (k n : Nat) : le (k + 1) n = UInt8.ofNat (n % 256) :: le k (n / 256) := by
  unfold le
  rw [List.range_succ_eq_map, List.map_cons, List.map_map]
  congr 1
  · rw [Nat.pow_zero, Nat.div_one]
  · refine List.map_congr_left fun i _ => ?_
    show UInt8.ofNat (n / 256 ^ (i + 1) % 256) = UInt8.ofNat (n / 256 / 256 ^ i % 256)
    rw [Nat.pow_succ, Nat.mul_comm, Nat.div_div_eq_div_mul]
theorem amount_zero : amountLength 0 = 0 := by unfold amountLength; rfl
theorem amount_pos {n : Nat} (h : n ≠ 0) : amountLength n = amountLength (n / 256) + 1 := by
  conv => lhs; unfold amountLength
  rw [if_neg h]
theorem amountRow_pos {n : Nat} (h : n ≠ 0) : le (amountLength n) n = UInt8.ofNat (n % 256) :: le (amountLength (n / 256)) (n / 256) := by
  rw [amount_pos h, le_cons]
end Pm

set_option linter.all false
set_option maxHeartbeats 1000000
namespace Pm
open Sw Hm
/-- a name's text -/
theorem bare_is (n : Bytes) : bare n = (decide (0 < n.length) && ((match n with
    | c :: _ => isSmall c
    | [] => false) && n.all inName)) := by
  cases n with
  | nil => rfl
  | cons c r =>
    show (isSmall c && r.all inName) = (true && (isSmall c && (inName c && r.all inName)))
    rw [Bool.true_and]
    cases hs : isSmall c with
    | false => rfl
    | true =>
      have : inName c = true := by unfold inName; rw [hs]; rfl
      rw [this, Bool.true_and, Bool.true_and]
end Pm

set_option Elab.async false
set_option linter.all false
set_option maxRecDepth 100000
set_option maxHeartbeats 2000000
namespace L2
open PySem PySem.Spec PyProof.Rows
/-! ### texts as rows of signs -/
def sOf (l : List Nat) : Str := ⟨l.toArray⟩
end L2

set_option linter.all false
namespace L2.J
open PySem PySem.Spec PyProof.Rows L2.XC
def top (i : Nat) : Stmt := PySem.Challenge.pw_onevalues_s06_read.main.body.getD i (.Pass ⟨0, 0, 0, 0⟩)
abbrev sFI : Stmt := inClass (top 16) 0
abbrev sRI : Stmt := inClass (top 27) 0
abbrev sSB : Stmt := inClass (top 27) 1
abbrev sRB : Stmt := inClass (top 27) 2
abbrev sRG : Stmt := inClass (top 27) 3
abbrev sPB : Stmt := inClass (top 27) 4
abbrev sSL : Stmt := top 31
abbrev sLS : Stmt := top 32
abbrev sHS : Stmt := top 33
abbrev sPS : Stmt := top 34
abbrev sIR : Stmt := top 36
abbrev sSO : Stmt := top 58
abbrev sFG : Stmt := top 59
abbrev sI1 : Stmt := top 60
abbrev sIL : Stmt := top 61
abbrev sIG : Stmt := top 62
abbrev sSI : Stmt := top 63
abbrev sIU : Stmt := top 64
abbrev sVR : Stmt := top 66
abbrev sAR : Stmt := top 67
abbrev sNR : Stmt := top 68
abbrev sMR : Stmt := top 69
abbrev sKR : Stmt := top 70
abbrev sX0 : Stmt := top 73
abbrev sXA : Stmt := top 74
abbrev sXW : Stmt := top 75
abbrev sXU : Stmt := top 76
abbrev sXM : Stmt := top 77
abbrev sXS : Stmt := top 78
abbrev sXP : Stmt := top 79
abbrev sXG : Stmt := top 80
abbrev sXI : Stmt := top 81
abbrev sX2 : Stmt := top 82
abbrev sXF : Stmt := top 83
abbrev sXQ : Stmt := top 84
abbrev sXL : Stmt := top 85
abbrev sXK : Stmt := top 86
abbrev sXD : Stmt := top 87
abbrev sXO : Stmt := top 88
abbrev sHI : Stmt := inClass (top 90) 0
abbrev sXT : Stmt := top 91
abbrev sXB : Stmt := top 92
abbrev sXE : Stmt := top 93
abbrev sXC : Stmt := top 94
abbrev sXH : Stmt := top 95
abbrev sBM : Stmt := top 96
abbrev sRN : Stmt := top 97
abbrev sXN : Stmt := top 98
abbrev sRD : Stmt := top 100
end L2.J

set_option Elab.async false
set_option linter.all false
set_option maxRecDepth 100000
set_option maxHeartbeats 2000000
namespace L2.J
open PySem PySem.Spec PyProof.Rows L2.XC
/-- a byte as a value -/
def bv (c : UInt8) : V := .int (c.toNat : Int)
/-- all that was tracked is as it was, but what stands at r -/
def Kp (H H' : Hp) (r : Addr) : Prop := ∀ b o, H b = some o → b ≠ r → H' b = some o
theorem Kp.trans {H H1 H2 : Hp} {r : Addr} (a : Kp H H1 r) (b : Kp H1 H2 r) : Kp H H2 r := fun c o e n => b c o (a c o e n) n
theorem Kp.refl (H : Hp) (r : Addr) : Kp H H r := fun _ _ e _ => e
theorem sq_kp {K : PySem.W.Frag} {H H' : Hp} {r a C dx : Addr} {fs : List (Str × V)} {xs : List V} (h : SqL K H a xs) (k : Kp H H' r) (hr : H r = some (.ins C dx fs)) : SqL K H' a xs := by
  rcases h with (h | ⟨o, h⟩) | h
  · exact .inl (.inl (k _ _ h (ne_of h hr (by intro z; cases z))))
  · exact .inl (.inr ⟨o, k _ _ h (ne_of h hr (by intro z; cases z))⟩)
  · exact .inr h
/-- a whole number of the module -/
def GI (mg : Str → Option Value) (x : Str) (n : Int) : Prop := ∃ t, mg x = some (.int n t)
theorem pgi {X : Cx} {x : Str} {n : Int} {pos : Pos} (h : GI X.mg x n) (hg : Gl X x) (hd : (x == ("__debug__" : Str)) = false := by decide) : PE X (.Name x pos) (tC (.int n)) := by
  obtain ⟨t, e⟩ := h
  exact pe_glob hg e ⟨t, rfl⟩ hd
/-- bytes as whole numbers -/
def bInts (b : List UInt8) : List Int := b.map fun c => (c.toNat : Int)
theorem bv_ints (b : List UInt8) : b.map bv = (bInts b).map V.int := by
  unfold bInts
  rw [List.map_map]
  rfl
theorem le_before : ∀ (q m : List UInt8), HT.lexLe (bInts m) (bInts q) = !Sw.bytesBefore q m
  | [], [] => rfl
  | [], _ :: _ => rfl
  | _ :: _, [] => rfl
  | a :: q, b :: m => by
    have ih := le_before q m
    show (if (b.toNat : Int) = (a.toNat : Int) then HT.lexLe (bInts m) (bInts q) else decide ((b.toNat : Int) ≤ (a.toNat : Int))) = !(decide (a.toNat < b.toNat) || (a == b && Sw.bytesBefore q m))
    by_cases e : a = b
    · subst e
      rw [if_pos rfl, ih, decide_eq_false (Nat.lt_irrefl _), beq_self_eq_true]
      rfl
    · have hn : ¬ a.toNat = b.toNat := fun z => e (UInt8.toNat_inj.mp z)
      have hb : (a == b) = false := beq_eq_false_iff_ne.mpr e
      rw [if_neg (by omega), hb, Bool.false_and, Bool.or_false]
      by_cases hl : a.toNat < b.toNat
      · rw [decide_eq_true hl, decide_eq_false (by omega)]
        rfl
      · rw [decide_eq_false hl, decide_eq_true (by omega)]
        rfl
theorem cut_bytes (bs : List UInt8) (p n : Nat) (h : p + n ≤ bs.length) {x y : Int} (hx : x = (p : Int)) (hy : y = ((p + n : Nat) : Int)) : cutV (bs.map bv) (some x) (some y) = ((bs.drop p).take n).map bv := by
  unfold cutV
  rw [hx, hy, HT.sIx_nat, HT.sIx_nat, List.length_map, Nat.min_eq_left (by omega), Nat.min_eq_left (by omega), ← List.map_drop, ← List.map_take]
  congr 2
  omega
/-! ### what the document asks -/
theorem text_ints (bs : List UInt8) : ValuesNeutral.text (bInts bs) = bs := by
  unfold ValuesNeutral.text bInts
  rw [List.map_map]
  conv => rhs; rw [← List.map_id bs]
  congr 1
  funext c
  simp
theorem ints_bytes : ∀ (ns : List Int), (∀ x ∈ ns, 0 ≤ x ∧ x ≤ 255) → ∃ bs : List UInt8, ns = bInts bs ∧ bs.length = ns.length
  | [], _ => ⟨[], rfl, rfl⟩
  | x :: ns, h => by
    obtain ⟨bs, e, l⟩ := ints_bytes ns fun y hy => h y (by simp [hy])
    obtain ⟨h0, h1⟩ := h x (by simp)
    refine ⟨UInt8.ofNat x.toNat :: bs, ?_, by simp [l]⟩
    show x :: ns = ((UInt8.ofNat x.toNat).toNat : Int) :: bInts bs
    rw [← e]
    congr 1
    rw [UInt8.toNat_ofNat']
    omega
/-- an answer as a list -/
def ansL (a : Values.Answer) : List Int := a.num :: (a.more ++ ((a.bytes.getD []).map fun (x : UInt8) => ((x.toNat : Nat) : Int)))
theorem ln1 {us : List Value} (h : us.length = 1) : ∃ a, us = [a] := List.length_eq_one_iff.mp h
theorem ln2 {us : List Value} (h : us.length = 2) : ∃ a b, us = [a, b] := by
  cases us with
  | nil => cases h
  | cons a r =>
    obtain ⟨b, rfl⟩ := ln1 (us := r) (Nat.succ.inj h)
    exact ⟨a, b, rfl⟩
theorem ln3 {us : List Value} (h : us.length = 3) : ∃ a b c, us = [a, b, c] := by
  cases us with
  | nil => cases h
  | cons a r =>
    obtain ⟨b, c, rfl⟩ := ln2 (us := r) (Nat.succ.inj h)
    exact ⟨a, b, c, rfl⟩
theorem vary_lt {n : Nat} (h : n < 128) : Sw.vary n = [UInt8.ofNat n] := by
  unfold Sw.vary
  rw [if_pos h]
theorem vary_ge {n : Nat} (h : ¬ n < 128) : Sw.vary n = UInt8.ofNat (128 + n % 128) :: Sw.vary (n / 128) := by
  conv => lhs; unfold Sw.vary
  rw [if_neg h]
theorem bv_of {k : Nat} (h : k < 256) : bv (UInt8.ofNat k) = .int (k : Int) := by
  unfold bv
  rw [UInt8.toNat_ofNat', Nat.mod_eq_of_lt h]
theorem vary_len5 {n : Nat} (h : n < 34359738368) : (Sw.vary n).length ≤ 5 := by
  by_cases h1 : n < 128
  · rw [vary_lt h1]; simp
  rw [vary_ge h1, List.length_cons]
  by_cases h2 : n / 128 < 128
  · rw [vary_lt h2]; simp
  rw [vary_ge h2, List.length_cons]
  by_cases h3 : n / 128 / 128 < 128
  · rw [vary_lt h3]; simp
  rw [vary_ge h3, List.length_cons]
  by_cases h4 : n / 128 / 128 / 128 < 128
  · rw [vary_lt h4]; simp
  rw [vary_ge h4, List.length_cons, vary_lt (by omega)]
  simp
end L2.J

set_option Elab.async false
set_option linter.all false
set_option maxRecDepth 100000
set_option maxHeartbeats 2000000
namespace L2.J
open PySem PySem.Spec PyProof.Rows L2.XC
/-- a reader's attributes -/
def rf (a : Addr) (p : Nat) : List (Str × V) := [("row", .ref a), ("place", .int (p : Int))]
theorem rf_row (a : Addr) (p : Nat) : (rf a p).lookup ("row" : Str) = some (.ref a) := rfl
theorem rf_place (a : Addr) (p : Nat) : (rf a p).lookup ("place" : Str) = some (.int (p : Int)) := rfl
theorem rf_no (a : Addr) (p : Nat) {m : Str} (h1 : ¬ m = "row") (h2 : ¬ m = "place") : (rf a p).lookup m = none := by
  have a1 : (m == ("row" : Str)) = false := beq_eq_false_iff_ne.mpr h1
  have a2 : (m == ("place" : Str)) = false := beq_eq_false_iff_ne.mpr h2
  simp only [rf, List.lookup, a1, a2]
/-- a reader of the row at a stands at r, at place p -/
def RdAt (CR : Addr) (H : Hp) (r a : Addr) (p : Nat) : Prop := ∃ dx, H r = some (.ins CR dx (rf a p))
structure TxR (K : PySem.W.Frag) (mg : Str → Option Value) (CF CR fFI : Addr) : Prop where
  xc : XCls K CF fFI
  cR : Cls K CR
  nRow : NoAttr K CR "row"
  nPl : NoAttr K CR "place"
  mF : mg "Fault" = some (.ref CF)
  len : mg "len" = none
  rng : mg "range" = none
  e1 : GI mg "ENDS_TOO_SOON" 1
  e2 : GI mg "WRONG_SIGN" 2
/-! ### the promises -/
def spRI (CR : Addr) : Sp := fun vs H Q _ => ∃ (r dx a : Addr), vs = [.ref r, .ref a] ∧ H r = some (.ins CR dx []) ∧ ∀ H' : Hp, RdAt CR H' r a 0 → Kp H H' r → Q .non H'
def spSB (K : PySem.W.Frag) (CF CR : Addr) : Sp := fun vs H Q E => ∃ (r a : Addr) (p : Nat) (bs : List UInt8), vs = [.ref r] ∧ RdAt CR H r a p ∧ SqL K H a (bs.map bv) ∧
  (match bs[p]? with
    | some c => Q (bv c) H
    | none => Err E CF (.int 1) (.int (bs.length : Int)))
def spRB (K : PySem.W.Frag) (CF CR : Addr) : Sp := fun vs H Q E => ∃ (r a : Addr) (p : Nat) (bs : List UInt8), vs = [.ref r] ∧ RdAt CR H r a p ∧ SqL K H a (bs.map bv) ∧
  (match bs[p]? with
    | some c => ∀ H' : Hp, RdAt CR H' r a (p + 1) → Kp H H' r → Q (bv c) H'
    | none => Err E CF (.int 1) (.int (bs.length : Int)))
section
variable {P : Program} {w : World} {K : PySem.W.Frag} {mg : Str → Option Value} {base : Heap} {CF CR fFI : Addr}
/-! ### Fault.__init__ -/
theorem scFI : FnScope ["self", "kind", "place"] ["self", "kind", "place"] (defScope sFI) := ⟨rfl, rfl, rfl, by decide +kernel, rfl, by decide +kernel, by decide +kernel⟩
theorem ok_FI {f : Addr} {fd : FuncData} (F : Fun K "__init__" "Fault.__init__" sFI f fd) (T : TxR K mg CF CR fFI) : FnOk P w K mg base CX0 1 f fd ["self", "kind", "place"] (spXI CF) := by
  refine F.ok scFI (fun vs H Q E h => ?_) (fun cdv A outer s H vs Q E hr h => ?_)
  · obtain ⟨e, k, p, rfl, _⟩ := h
    rfl
  · obtain ⟨e, k, p, rfl, he, q⟩ := h
    refine ⟨_, pss_cons (ps_x1 T.xc (.inl rfl) (pv 0) (pv 1) rfl) (pss_one (ps_x2 T.xc (.inr rfl) (pv 0) (pv 2) rfl)), ?_⟩
    refine ⟨_, rfl, _, rfl, e, rfl, he, fun dx n ne => ?_⟩
    refine ⟨_, rfl, _, rfl, e, dx, _, rfl, upd_same, by rw [upd_ne ne, upd_same], ne, by show 1 ≤ 1000; decide, ?_⟩
    exact q dx _ ne (by rw [upd_ne (Ne.symm ne), upd_same]) upd_same
/-! ### Reader -/
theorem scRI : FnScope ["self", "row"] ["self", "row"] (defScope sRI) := ⟨rfl, rfl, rfl, by decide +kernel, rfl, by decide +kernel, by decide +kernel⟩
theorem ok_RI {f : Addr} {fd : FuncData} (F : Fun K "__init__" "Reader.__init__" sRI f fd) (T : TxR K mg CF CR fFI) : FnOk P w K mg base CX0 1 f fd ["self", "row"] (spRI CR) := by
  refine F.ok scRI (fun vs H Q E h => ?_) (fun cdv A outer s H vs Q E hr h => ?_)
  · obtain ⟨r, dx, a, rfl, _⟩ := h
    rfl
  · obtain ⟨r, dx, a, rfl, hp, k⟩ := h
    refine ⟨_, pss_cons (ps_fld (pv 0) (pv 1) rfl) (pss_one (ps_fld (pv 0) pe_int rfl)), ?_⟩
    refine ⟨_, rfl, _, rfl, r, CR, dx, [], rfl, hp, T.cR, T.nRow, (by show 0 < 1000; decide), ?_⟩
    refine ⟨_, rfl, r, CR, dx, _, rfl, upd_same, T.cR, T.nPl, (by show 1 < 1000; decide), ?_⟩
    exact k _ ⟨dx, upd_same⟩ fun b o e n => by rw [upd_ne n, upd_ne n]; exact e
theorem scSB : FnScope ["self"] ["self"] (defScope sSB) := ⟨rfl, rfl, rfl, by decide +kernel, rfl, by decide +kernel, by decide +kernel⟩
theorem ok_SB {f : Addr} {fd fdI : FuncData} (F : Fun K "see_byte" "Reader.see_byte" sSB f fd) (T : TxR K mg CF CR fFI) (FI : Fun K "__init__" "Fault.__init__" sFI fFI fdI) (bI : Binds K fdI ["self", "kind", "place"] []) :
    FnOk P w K mg base (CXF P w) 3 f fd ["self"] (spSB K CF CR) := by
  have GI : FnOk P w K mg base CX0 1 fFI fdI ["self", "kind", "place"] (spXI CF) := ok_FI FI T
  refine okX F scSB (fun vs H Q E h => ?_) (fun cdv A outer s H vs Q E hr h => ?_)
  · obtain ⟨r, a, p, bs, rfl, _⟩ := h
    rfl
  · obtain ⟨r, a, p, bs, rfl, ⟨dx, hr1⟩, hs, q⟩ := h
    refine ⟨_, pss_cons (ps_if (pt_cmpR op_ge (pe_fld (pv 0) rfl) (pe_callB call_len_seq (by rfl) T.len PySem.boot_len (pa_cons (pe_fld (pv 0) rfl) pa_nil)) (nomark _))
        (pss_one (ps_raise T.xc GI bI hr flies_cx rfl rfl T.mF (pa_cons (pgi T.e1 rfl) (pa_cons (pe_callB call_len_seq (by rfl) T.len PySem.boot_len (pa_cons (pe_fld (pv 0) rfl) pa_nil)) pa_nil)))) pss_nil)
      (pss_one (ps_ret (pe_ix ix_list (pe_fld (pv 0) rfl) (pe_fld (pv 0) rfl) (fun _ _ => rfl)))), ?_⟩
    refine ⟨_, rfl, r, CR, dx, _, _, rfl, hr1, T.cR, T.nPl, rf_place a p, _, rfl, r, CR, dx, _, _, rfl, hr1, T.cR, T.nRow, rf_row a p, a, _, rfl, .inl hs, _, _, rfl, rfl, _, rfl, ?_⟩
    rw [List.length_map]
    refine ite2 (fun z => ?_) (fun z => ?_)
    · have z := of_decide_eq_true z
      have e : bs[p]? = none := List.getElem?_eq_none_iff.mpr (by omega)
      rw [e] at q
      exact ⟨_, rfl, r, CR, dx, _, _, rfl, hr1, T.cR, T.nRow, rf_row a p, a, _, rfl, .inl hs, _, _, rfl, by rw [List.length_map]; exact q⟩
    · have z : p < bs.length := by
        have z := z
        simp at z
        omega
      have e : bs[p]? = some bs[p] := List.getElem?_eq_getElem z
      rw [e] at q
      exact ⟨_, rfl, r, CR, dx, _, _, rfl, hr1, T.cR, T.nRow, rf_row a p, _, rfl, r, CR, dx, _, _, rfl, hr1, T.cR, T.nPl, rf_place a p, a, _, _, bv bs[p], rfl, rfl, hs, atI_nat (by rw [List.getElem?_map, e]; rfl), q⟩
theorem scRB : FnScope ["self", "byte"] ["self"] (defScope sRB) := ⟨rfl, rfl, rfl, by decide +kernel, rfl, by decide +kernel, by decide +kernel⟩
theorem ok_RB {f fSB : Addr} {fd fdS : FuncData} (F : Fun K "read_byte" "Reader.read_byte" sRB f fd) (T : TxR K mg CF CR fFI)
    (GS : FnOk P w K mg base (CXF P w) 3 fSB fdS ["self"] (spSB K CF CR)) (bS : Binds K fdS ["self"] []) (mS : Meth K CR "see_byte" fSB) :
    FnOk P w K mg base (CXF P w) 4 f fd ["self"] (spRB K CF CR) := by
  refine okX F scRB (fun vs H Q E h => ?_) (fun cdv A outer s H vs Q E hr h => ?_)
  · obtain ⟨r, a, p, bs, rfl, _⟩ := h
    rfl
  · obtain ⟨r, a, p, bs, rfl, ⟨dx, hr1⟩, hs, q⟩ := h
    refine ⟨_, pss_cons (ps_set (i := 1) scRB.nd rfl (Or.inl rfl) (pe_meth0 (pv 0) T.cR mS GS hr bS .nil passX))
      (pss_cons (ps_fldaug (pv 0) pe_int in_add) (pss_one (ps_ret (pv 1)))), ?_⟩
    refine ⟨_, rfl, r, dx, _, rfl, hr1, rf_no a p (by decide +kernel) (by decide +kernel), r, a, p, bs, rfl, ⟨dx, hr1⟩, hs, ?_⟩
    cases e : bs[p]? with
    | none =>
      rw [e] at q
      exact q
    | some c =>
      rw [e] at q
      refine ⟨_, rfl, r, CR, dx, _, _, rfl, hr1, T.cR, T.nPl, rf_place a p, _, _, rfl, rfl, dx, _, hr1, (by show 2 < 1000; decide), ?_⟩
      refine ⟨_, rfl, q _ ⟨dx, ?_⟩ fun b o e n => by rw [upd_ne n]; exact e⟩
      rw [upd_same]
      rfl
end
end L2.J

set_option Elab.async false
set_option linter.all false
set_option maxRecDepth 100000
set_option maxHeartbeats 2000000
namespace L2.J
open PySem PySem.Spec PyProof.Rows L2.XC
def spPB (K : PySem.W.Frag) (CF CR : Addr) : Sp := fun vs H Q E => ∃ (r a : Addr) (p n : Nat) (bs : List UInt8), vs = [.ref r, .int (n : Int)] ∧ RdAt CR H r a p ∧ SqL K H a (bs.map bv) ∧ p ≤ bs.length ∧
  (if bs.length - p < n then Err E CF (.int 1) (.int (bs.length : Int)) else ∀ H' : Hp, RdAt CR H' r a (p + n) → Kp H H' r → Q (.int (p : Int)) H')
section
variable {P : Program} {w : World} {K : PySem.W.Frag} {mg : Str → Option Value} {base : Heap} {CF CR fFI : Addr}
theorem scPB : FnScope ["self", "how_many", "first"] ["self", "how_many"] (defScope sPB) := ⟨rfl, rfl, rfl, by decide +kernel, rfl, by decide +kernel, by decide +kernel⟩
theorem ok_PB {f : Addr} {fd fdI : FuncData} (F : Fun K "pass_bytes" "Reader.pass_bytes" sPB f fd) (T : TxR K mg CF CR fFI) (FI : Fun K "__init__" "Fault.__init__" sFI fFI fdI) (bI : Binds K fdI ["self", "kind", "place"] []) :
    FnOk P w K mg base (CXF P w) 3 f fd ["self", "how_many"] (spPB K CF CR) := by
  have GI : FnOk P w K mg base CX0 1 fFI fdI ["self", "kind", "place"] (spXI CF) := ok_FI FI T
  refine okX F scPB (fun vs H Q E h => ?_) (fun cdv A outer s H vs Q E hr h => ?_)
  · obtain ⟨r, a, p, n, bs, rfl, _⟩ := h
    rfl
  · obtain ⟨r, a, p, n, bs, rfl, ⟨dx, hr1⟩, hs, hp, q⟩ := h
    refine ⟨_, pss_cons (ps_if (pt_cmpR op_gt (pv 1) (pe_op op_sub (pe_callB call_len_seq (by rfl) T.len PySem.boot_len (pa_cons (pe_fld (pv 0) rfl) pa_nil)) (pe_fld (pv 0) rfl)) (nomark _))
        (pss_one (ps_raise T.xc GI bI hr flies_cx rfl rfl T.mF (pa_cons (pgi T.e1 rfl) (pa_cons (pe_callB call_len_seq (by rfl) T.len PySem.boot_len (pa_cons (pe_fld (pv 0) rfl) pa_nil)) pa_nil)))) pss_nil)
      (pss_cons (ps_set (i := 2) scPB.nd rfl (Or.inl rfl) (pe_fld (pv 0) rfl))
      (pss_cons (ps_fldaug (pv 0) (pv 1) in_add) (pss_one (ps_ret (pv 2))))), ?_⟩
    refine ⟨_, rfl, _, rfl, r, CR, dx, _, _, rfl, hr1, T.cR, T.nRow, rf_row a p, a, _, rfl, .inl hs, _, rfl, r, CR, dx, _, _, rfl, hr1, T.cR, T.nPl, rf_place a p, _, _, rfl, rfl, _, _, rfl, rfl, _, rfl, ?_⟩
    rw [List.length_map]
    refine ite2 (fun z => ?_) (fun z => ?_)
    · have z := of_decide_eq_true z
      rw [if_pos (by omega)] at q
      exact ⟨_, rfl, r, CR, dx, _, _, rfl, hr1, T.cR, T.nRow, rf_row a p, a, _, rfl, .inl hs, _, _, rfl, by rw [List.length_map]; exact q⟩
    · have z : ¬ bs.length - p < n := by
        have z := z
        simp at z
        omega
      rw [if_neg z] at q
      refine ⟨_, rfl, r, CR, dx, _, _, rfl, hr1, T.cR, T.nPl, rf_place a p, ?_⟩
      refine ⟨_, rfl, r, CR, dx, _, _, rfl, hr1, T.cR, T.nPl, rf_place a p, _, rfl, _, _, rfl, rfl, dx, _, hr1, (by show 2 < 1000; decide), ?_⟩
      refine ⟨_, rfl, q _ ⟨dx, ?_⟩ fun b o e n => by rw [upd_ne n]; exact e⟩
      rw [upd_same]
      rfl
end
end L2.J

set_option Elab.async false
set_option linter.all false
set_option maxRecDepth 100000
set_option maxHeartbeats 2000000
namespace L2.J
open PySem PySem.Spec PyProof.Rows L2.XC
/-- what is wanted of a reading: its end, or the fault -/
def Out {α : Type} (E : XK) (CF : Addr) (r : Except Sw.Fault α) (k : α → Prop) : Prop := match r with
  | .ok x => k x
  | .error e => Err E CF (.int (e.kind : Int)) (.int (e.place : Int))
end L2.J

set_option Elab.async false
set_option linter.all false
set_option maxRecDepth 100000
set_option maxHeartbeats 2000000
namespace L2.J
open PySem PySem.Spec PyProof.Rows L2.XC
structure TxU (mg : Str → Option Value) : Prop where
  lf : GI mg "LOWEST_FURTHER" 128
  hf : GI mg "HIGHEST_FURTHER" 191
  e5 : GI mg "WRONG_UTF8" 5
  mn : mg "min" = none
/-- how many bytes a scalar value has -/
def slen (c : Nat) : Nat := if Um.cf c = 0 then 0 else Um.cf c + 1
/-- what pass_scalar gives of a first byte and those behind it, before the end -/
def psAt (p : Nat) (c : UInt8) (b : List UInt8) : Except Nat Nat := if Um.cf c.toNat = 0 then .error p else match Um.fbad (Um.ls c.toNat) (Um.hs c.toNat) (p + 1) (b.take (Um.cf c.toNat)) with
  | some q => .error q
  | none => .ok (p + 1 + Um.cf c.toNat)
/-- a def of one number -/
def spN (g : Nat → Nat) : Sp := fun vs H Q _ => ∃ c : Nat, vs = [.int (c : Int)] ∧ Q (.int ((g c : Nat) : Int)) H
def spPS (K : PySem.W.Frag) (CF : Addr) : Sp := fun vs H Q E => ∃ (a : Addr) (pl en : Nat) (c : UInt8) (bs : List UInt8), vs = [.ref a, .int (pl : Int), .int (en : Int)] ∧ SqL K H a (bs.map bv) ∧ bs[pl]? = some c ∧ pl < en ∧ en ≤ bs.length ∧ bs.length ≤ 65536 ∧
  (match psAt pl c ((bs.drop (pl + 1)).take (en - (pl + 1))) with
    | .error q => Err E CF (.int 5) (.int (q : Int))
    | .ok z => Q (.int (z : Int)) H)
section
variable {P : Program} {w : World} {K : PySem.W.Frag} {mg : Str → Option Value} {base : Heap} {CF CR fFI : Addr}
theorem scSL : FnScope ["first"] ["first"] (defScope sSL) := ⟨rfl, rfl, rfl, by decide +kernel, rfl, by decide +kernel, by decide +kernel⟩
/-- a <= c <= b -/
theorem between {lo hi c : Nat} {i : Nat} {σ : St} {H : Hp} {Q : Bool → Hp → Prop} (h : σ[i]? = some (some (.int (c : Int)))) (q : Q (decide (lo ≤ c ∧ c ≤ hi)) H) :
    tTest (tChain (rI0 fun i j => V.bl (decide (i ≤ j))) (rI0 fun i j => V.bl (decide (i ≤ j))) (tC (.int (lo : Int))) (tVar i) (tC (.int (hi : Int)))) σ H Q := by
  refine ⟨_, h, _, _, rfl, rfl, _, rfl, ?_⟩
  by_cases h1 : lo ≤ c
  · rw [decide_eq_true (show (lo : Int) ≤ (c : Int) by omega)]
    refine iteT ⟨_, _, rfl, rfl, _, rfl, ?_⟩
    have e : decide ((c : Int) ≤ (hi : Int)) = decide (lo ≤ c ∧ c ≤ hi) := by
      by_cases h2 : c ≤ hi
      · rw [decide_eq_true (show (c : Int) ≤ (hi : Int) by omega), decide_eq_true ⟨h1, h2⟩]
      · rw [decide_eq_false (show ¬ (c : Int) ≤ (hi : Int) by omega), decide_eq_false (fun z => h2 z.2)]
    rw [e]
    exact q
  · rw [decide_eq_false (show ¬ (lo : Int) ≤ (c : Int) by omega)]
    refine iteF ⟨_, rfl, ?_⟩
    rw [decide_eq_false (fun z => h1 z.1)] at q
    exact q
theorem ok_SL {f : Addr} {fd : FuncData} (F : Fun K "scalar_length" "scalar_length" sSL f fd) : FnOk P w K mg base CX0 1 f fd ["first"] (spN slen) := by
  refine F.ok scSL (fun vs H Q E h => ?_) (fun cdv A outer s H vs Q E hr h => ?_)
  · obtain ⟨c, rfl, _⟩ := h
    rfl
  · obtain ⟨c, rfl, q⟩ := h
    refine ⟨_, pss_cons (ps_if (pt_chain op_le op_le pe_int (pv 0) pe_int) (pss_one (ps_ret pe_int)) pss_nil)
      (pss_cons (ps_if (pt_chain op_le op_le pe_int (pv 0) pe_int) (pss_one (ps_ret pe_int)) pss_nil)
      (pss_cons (ps_if (pt_chain op_le op_le pe_int (pv 0) pe_int) (pss_one (ps_ret pe_int)) pss_nil) (pss_one (ps_ret pe_int)))), ?_⟩
    unfold slen Um.cf at q
    refine between (lo := 194) (hi := 223) rfl (ite2 (fun z => ?_) (fun z => ?_))
    · rw [if_pos (of_decide_eq_true z)] at q
      exact q
    · rw [if_neg (fun y => z (decide_eq_true y))] at q
      refine between (lo := 224) (hi := 239) rfl (ite2 (fun z => ?_) (fun z => ?_))
      · rw [if_pos (of_decide_eq_true z)] at q
        exact q
      · rw [if_neg (fun y => z (decide_eq_true y))] at q
        refine between (lo := 240) (hi := 244) rfl (ite2 (fun z => ?_) (fun z => ?_))
        · rw [if_pos (of_decide_eq_true z)] at q
          exact q
        · rw [if_neg (fun y => z (decide_eq_true y))] at q
          exact q
/-- c == n -/
theorem equals {n c : Nat} {i : Nat} {σ : St} {H : Hp} {Q : Bool → Hp → Prop} (h : σ[i]? = some (some (.int (c : Int)))) (q : Q (decide (c = n)) H) : tTest (tOp rEq (tVar i) (tC (.int (n : Int)))) σ H Q := by
  refine ⟨_, h, rfl, _, rfl, ?_⟩
  have e : decide (V.int (c : Int) = V.int (n : Int)) = decide (c = n) := by
    by_cases z : c = n
    · rw [z, decide_eq_true rfl, decide_eq_true rfl]
    · rw [decide_eq_false z, decide_eq_false (fun y => z (by injection y with y; omega))]
  rw [e]
  exact q
theorem scLS : FnScope ["first"] ["first"] (defScope sLS) := ⟨rfl, rfl, rfl, by decide +kernel, rfl, by decide +kernel, by decide +kernel⟩
theorem ok_LS {f : Addr} {fd : FuncData} (F : Fun K "lowest_second" "lowest_second" sLS f fd) (U : TxU mg) : FnOk P w K mg base CX0 1 f fd ["first"] (spN Um.ls) := by
  refine F.ok scLS (fun vs H Q E h => ?_) (fun cdv A outer s H vs Q E hr h => ?_)
  · obtain ⟨c, rfl, _⟩ := h
    rfl
  · obtain ⟨c, rfl, q⟩ := h
    refine ⟨_, pss_cons (ps_if (pt_cmpR op_eq (pv 0) pe_int (nomark _)) (pss_one (ps_ret pe_int)) pss_nil)
      (pss_cons (ps_if (pt_cmpR op_eq (pv 0) pe_int (nomark _)) (pss_one (ps_ret pe_int)) pss_nil) (pss_one (ps_ret (pgi U.lf rfl)))), ?_⟩
    unfold Um.ls at q
    refine equals (n := 224) rfl (ite2 (fun z => ?_) (fun z => ?_))
    · rw [if_pos (of_decide_eq_true z)] at q
      exact q
    · rw [if_neg (fun y => z (decide_eq_true y))] at q
      refine equals (n := 240) rfl (ite2 (fun z => ?_) (fun z => ?_))
      · rw [if_pos (of_decide_eq_true z)] at q
        exact q
      · rw [if_neg (fun y => z (decide_eq_true y))] at q
        exact q
theorem scHS : FnScope ["first"] ["first"] (defScope sHS) := ⟨rfl, rfl, rfl, by decide +kernel, rfl, by decide +kernel, by decide +kernel⟩
theorem ok_HS {f : Addr} {fd : FuncData} (F : Fun K "highest_second" "highest_second" sHS f fd) (U : TxU mg) : FnOk P w K mg base CX0 1 f fd ["first"] (spN Um.hs) := by
  refine F.ok scHS (fun vs H Q E h => ?_) (fun cdv A outer s H vs Q E hr h => ?_)
  · obtain ⟨c, rfl, _⟩ := h
    rfl
  · obtain ⟨c, rfl, q⟩ := h
    refine ⟨_, pss_cons (ps_if (pt_cmpR op_eq (pv 0) pe_int (nomark _)) (pss_one (ps_ret pe_int)) pss_nil)
      (pss_cons (ps_if (pt_cmpR op_eq (pv 0) pe_int (nomark _)) (pss_one (ps_ret pe_int)) pss_nil) (pss_one (ps_ret (pgi U.hf rfl)))), ?_⟩
    unfold Um.hs at q
    refine equals (n := 237) rfl (ite2 (fun z => ?_) (fun z => ?_))
    · rw [if_pos (of_decide_eq_true z)] at q
      exact q
    · rw [if_neg (fun y => z (decide_eq_true y))] at q
      refine equals (n := 244) rfl (ite2 (fun z => ?_) (fun z => ?_))
      · rw [if_pos (of_decide_eq_true z)] at q
        exact q
      · rw [if_neg (fun y => z (decide_eq_true y))] at q
        exact q
theorem scPS : FnScope ["row", "place", "end", "first", "length", "lowest", "highest", "further"] ["row", "place", "end"] (defScope sPS) := ⟨rfl, rfl, rfl, by decide +kernel, rfl, by decide +kernel, by decide +kernel⟩
theorem ok_PS {f f1 f2 f3 : Addr} {fd fdI fd1 fd2 fd3 : FuncData} (F : Fun K "pass_scalar" "pass_scalar" sPS f fd) (T : TxR K mg CF CR fFI) (U : TxU mg) (FI : Fun K "__init__" "Fault.__init__" sFI fFI fdI) (bI : Binds K fdI ["self", "kind", "place"] [])
    (F1 : Fun K "scalar_length" "scalar_length" sSL f1 fd1) (b1 : Binds K fd1 ["first"] []) (m1 : mg "scalar_length" = some (.ref f1))
    (F2 : Fun K "lowest_second" "lowest_second" sLS f2 fd2) (b2 : Binds K fd2 ["first"] []) (m2 : mg "lowest_second" = some (.ref f2))
    (F3 : Fun K "highest_second" "highest_second" sHS f3 fd3) (b3 : Binds K fd3 ["first"] []) (m3 : mg "highest_second" = some (.ref f3)) :
    FnOk P w K mg base (CXF P w) 3 f fd ["row", "place", "end"] (spPS K CF) := by
  have GI : FnOk P w K mg base CX0 1 fFI fdI ["self", "kind", "place"] (spXI CF) := ok_FI FI T
  have G1 : FnOk P w K mg base CX0 1 f1 fd1 ["first"] (spN slen) := ok_SL F1
  have G2 : FnOk P w K mg base CX0 1 f2 fd2 ["first"] (spN Um.ls) := ok_LS F2 U
  have G3 : FnOk P w K mg base CX0 1 f3 fd3 ["first"] (spN Um.hs) := ok_HS F3 U
  refine okX F scPS (fun vs H Q E h => ?_) (fun cdv A outer s H vs Q E hr h => ?_)
  · obtain ⟨a, pl, en, c, bs, rfl, _⟩ := h
    rfl
  · obtain ⟨a, pl, en, c, bs, rfl, hs, hc, h1, h2, h3, q⟩ := h
    have hr1 : Room 1 _ := hr.mono (by decide)
    refine ⟨_, pss_cons (ps_set (i := 3) scPS.nd rfl (Or.inl rfl) (pe_ix ix_list (pv 0) (pv 1) (fun _ _ => rfl)))
      (pss_cons (ps_set (i := 4) scPS.nd rfl (Or.inl rfl) (pe_call G1 hr1 rfl m1 F1.kp b1 .nil pass0 (pa_cons (pv 3) pa_nil)))
      (pss_cons (ps_if (pt_cmpR op_eq (pv 4) pe_int (nomark _)) (pss_one (ps_raise T.xc GI bI hr flies_cx rfl rfl T.mF (pa_cons (pgi U.e5 rfl) (pa_cons (pv 1) pa_nil)))) pss_nil)
      (pss_cons (ps_set (i := 5) scPS.nd rfl (Or.inl rfl) (pe_call G2 hr1 rfl m2 F2.kp b2 .nil pass0 (pa_cons (pv 3) pa_nil)))
      (pss_cons (ps_set (i := 6) scPS.nd rfl (Or.inl rfl) (pe_call G3 hr1 rfl m3 F3.kp b3 .nil pass0 (pa_cons (pv 3) pa_nil)))
      (pss_cons (ps_for PassesOwn.leaving rfl (pi_range2 rfl T.rng (pa_cons (pe_op op_add (pv 1) pe_int) (pa_cons (pe_callB (call_min2 rfl) (by rfl) U.mn boot_min (pa_cons (pe_op op_add (pv 1) (pv 4)) (pa_cons (pv 2) pa_nil))) pa_nil))) (pg_name (i := 7) scPS.nd rfl (Or.inl rfl))
        (pss_cons (ps_if (PW.pt (pw_or (pt_cmpR op_lt (pe_ix ix_list (pv 0) (pv 7) (fun _ _ => rfl)) (pv 5) (nomark _)) (pw_or1 (pt_cmpR op_gt (pe_ix ix_list (pv 0) (pv 7) (fun _ _ => rfl)) (pv 6) (nomark _)))))
            (pss_one (ps_raise T.xc GI bI hr flies_cx rfl rfl T.mF (pa_cons (pgi U.e5 rfl) (pa_cons (pv 7) pa_nil)))) pss_nil)
        (pss_cons (ps_set (i := 5) scPS.nd rfl (Or.inl rfl) (pgi U.lf rfl)) (pss_one (ps_set (i := 6) scPS.nd rfl (Or.inl rfl) (pgi U.hf rfl))))))
      (pss_one (ps_ret (pe_op op_add (pv 1) (pv 4))))))))), ?_⟩
    refine ⟨_, rfl, _, rfl, a, _, _, bv c, rfl, rfl, hs, atI_nat (by rw [List.getElem?_map, hc]; rfl), ?_⟩
    refine ⟨_, rfl, c.toNat, rfl, ?_⟩
    refine equals (n := 0) rfl ?_
    unfold psAt at q
    unfold slen
    by_cases h0 : Um.cf c.toNat = 0
    · rw [if_pos h0] at q
      rw [if_pos h0, decide_eq_true rfl]
      exact iteT ⟨_, rfl, _, _, rfl, q⟩
    · rw [if_neg h0] at q
      rw [if_neg h0, decide_eq_false (by omega)]
      refine iteF ⟨_, rfl, c.toNat, rfl, _, rfl, c.toNat, rfl, ?_⟩
      generalize hk : Um.cf c.toNat = k at q h0
      generalize hseg : ((bs.drop (pl + 1)).take (en - (pl + 1))).take k = seg at q
      have lseg : seg.length = min k (en - (pl + 1)) := by rw [← hseg, List.length_take, List.length_take, List.length_drop]; omega
      have hat : ∀ i, i < seg.length → seg[i]? = bs[pl + 1 + i]? := fun i hi => by
        rw [← hseg, List.getElem?_take_of_lt (by omega), List.getElem?_take_of_lt (by omega), List.getElem?_drop]
      generalize hR : Um.fbad (Um.ls c.toNat) (Um.hs c.toNat) (pl + 1) seg = R at q
      have eM : (if (en : Int) < (pl : Int) + ((k + 1 : Nat) : Int) then (en : Int) else (pl : Int) + ((k + 1 : Nat) : Int)) = ((pl + 1 + seg.length : Nat) : Int) := by
        rw [lseg]
        by_cases z : (en : Int) < (pl : Int) + ((k + 1 : Nat) : Int)
        · rw [if_pos z]; omega
        · rw [if_neg z]; omega
      refine ⟨_, rfl, _, _, rfl, rfl, _, rfl, _, rfl, _, _, rfl, rfl, _, rfl, _, _, rfl, _, _, rfl, ?_, ?_⟩
      · rw [eM]
        exact ⟨by omega, by omega, by omega, by omega⟩
      rw [eM, show (((pl + 1 + seg.length : Nat) : Int) - ((pl : Int) + 1)).toNat = seg.length by omega]
      refine for_range (lo := (pl : Int) + 1) (n := seg.length) (fun i σ H' => H' = H ∧ ∃ (lo hi : Nat) (loi hii : Int) (v7 : Option V), loi = (lo : Int) ∧ hii = (hi : Int) ∧
          σ = [some (.ref a), some (.int (pl : Int)), some (.int (en : Int)), some (bv c), some (.int ((k + 1 : Nat) : Int)), some (.int loi), some (.int hii), v7] ∧ Um.fbad lo hi (pl + 1 + i) (seg.drop i) = R)
        ⟨rfl, Um.ls c.toNat, Um.hs c.toNat, _, _, none, rfl, rfl, rfl, hR⟩ ?_ ?_
      · rintro i σ H1 hi ⟨rfl, lo, hi', loi, hii, v7, rfl, rfl, rfl, hrun⟩
        have eb : seg[i]? = some seg[i] := List.getElem?_eq_getElem hi
        have eb2 := hat i hi
        have ed : seg.drop i = seg[i] :: seg.drop (i + 1) := List.drop_eq_getElem_cons hi
        rw [ed] at hrun
        generalize seg[i] = d at eb hrun
        rw [eb] at eb2
        have ei : ((pl : Int) + 1 + (i : Int)) = ((pl + 1 + i : Nat) : Int) := by omega
        have hix : atI (bs.map bv) ((pl : Int) + 1 + (i : Int)) = some (bv d) := at_of ei (by rw [List.getElem?_map, ← eb2]; rfl)
        unfold Um.fbad at hrun
        refine ⟨_, rfl, _, rfl, a, _, _, bv d, rfl, rfl, hs, hix, _, rfl, _, _, rfl, rfl, _, rfl, ?_⟩
        by_cases hb : d.toNat < lo ∨ hi' < d.toNat
        · rw [if_pos hb] at hrun
          subst hrun
          have q' : Err E CF (.int 5) (.int ((pl : Int) + 1 + (i : Int))) := by rw [ei]; exact q
          by_cases hb1 : d.toNat < lo
          · rw [decide_eq_true (show (d.toNat : Int) < (lo : Int) by omega)]
            exact ⟨_, rfl, _, _, rfl, q'⟩
          · rw [decide_eq_false (show ¬ (d.toNat : Int) < (lo : Int) by omega)]
            refine ⟨_, rfl, _, rfl, a, _, _, bv d, rfl, rfl, hs, hix, _, rfl, _, _, rfl, rfl, _, rfl, ?_⟩
            rw [decide_eq_true (show (hi' : Int) < (d.toNat : Int) by omega)]
            exact ⟨_, rfl, _, _, rfl, q'⟩
        · rw [if_neg hb] at hrun
          rw [decide_eq_false (show ¬ (d.toNat : Int) < (lo : Int) by omega)]
          refine ⟨_, rfl, _, rfl, a, _, _, bv d, rfl, rfl, hs, hix, _, rfl, _, _, rfl, rfl, _, rfl, ?_⟩
          rw [decide_eq_false (show ¬ (hi' : Int) < (d.toNat : Int) by omega)]
          refine iteF ?_
          exact ⟨rfl, 128, 191, _, _, _, rfl, rfl, rfl, by rw [← Nat.add_assoc]; exact hrun⟩
      · rintro σ H1 ⟨rfl, lo, hi', loi, hii, v7, rfl, rfl, rfl, hrun⟩
        rw [List.drop_of_length_le (Nat.le_refl _)] at hrun
        have hrun : none = R := hrun
        subst hrun
        have q' : Q (.int ((pl + 1 + k : Nat) : Int)) H1 := q
        have e9 : ((pl + 1 + k : Nat) : Int) = (pl : Int) + ((k + 1 : Nat) : Int) := by omega
        rw [e9] at q'
        exact ⟨_, rfl, _, rfl, _, _, rfl, rfl, q'⟩
end
theorem dint {x y : Int} : decide (V.int x = V.int y) = decide (x = y) := by
  by_cases h : x = y
  · rw [h, decide_eq_true rfl, decide_eq_true rfl]
  · rw [decide_eq_false h, decide_eq_false (fun z => h (by injection z))]
end L2.J

set_option Elab.async false
set_option linter.all false
set_option maxRecDepth 100000
set_option maxHeartbeats 2000000
namespace L2.J
open PySem PySem.Spec PyProof.Rows L2.XC
def spVR : Sp := fun vs H Q _ => ∃ n : Nat, vs = [.int (n : Int)] ∧ n < 34359738368 ∧ ∀ (x : Addr) (H' : Hp), Same H H' → H x = none → H' x = some (.lst ((Sw.vary n).map bv)) → Q (.ref x) H'
section
variable {P : Program} {w : World} {K : PySem.W.Frag} {mg : Str → Option Value} {base : Heap}
theorem scVR : FnScope ["amount", "row", "left"] ["amount"] (defScope sVR) := ⟨rfl, rfl, rfl, by decide +kernel, rfl, by decide +kernel, by decide +kernel⟩
theorem ok_VR {f : Addr} {fd : FuncData} (F : Fun K "vary_row" "vary_row" sVR f fd) : FnOk P w K mg base CX0 1 f fd ["amount"] spVR := by
  refine F.ok scVR (fun vs H Q E h => ?_) (fun cdv A outer s H vs Q E hr h => ?_)
  · obtain ⟨n, rfl, _⟩ := h
    rfl
  · obtain ⟨n, rfl, hn, q⟩ := h
    refine ⟨_, pss_cons (ps_set (i := 1) scVR.nd rfl (Or.inl rfl) (pe_lst pa_nil))
      (pss_cons (ps_set (i := 2) scVR.nd rfl (Or.inl rfl) (pv 0))
      (pss_cons (ps_while PassesOwn.never (pt_cmpR op_ge (pv 2) pe_int (nomark _))
        (pss_cons (ps_expr (pe_bm PySem.F.plainAttrs_list PySem.F.slot_list_append PySem.F.type_list_append mt_append (pv 1) (pa_cons (pe_op op_add (pe_op op_mod (pv 2) pe_int) pe_int) pa_nil)))
        (pss_one (ps_set (i := 2) scVR.nd rfl (Or.inl rfl) (pe_op op_fdiv (pv 2) pe_int)))))
      (pss_cons (ps_expr (pe_bm PySem.F.plainAttrs_list PySem.F.slot_list_append PySem.F.type_list_append mt_append (pv 1) (pa_cons (pv 2) pa_nil)))
      (pss_one (ps_ret (pv 1)))))), ?_⟩
    refine ⟨(by show 0 ≤ sizeLine; decide), fun x hx => ?_⟩
    refine ⟨_, rfl, fun m σ G => ∃ (acc : List UInt8) (left : Nat), σ = [some (.int (n : Int)), some (.ref x), some (.int (left : Int))] ∧ Same H G ∧ G x = some (.lst (acc.map bv)) ∧ acc ++ Sw.vary left = Sw.vary n ∧ m = left, ⟨n, [], n, rfl, fun b o e => (upd_ne (ne_of_none e hx)).trans e, upd_same, rfl, rfl⟩, ?_⟩
    rintro m σ G ⟨acc, left, rfl, k, hG, hv, hm⟩
    have hsh := vary_len5 (n := n) (by omega)
    have hal : acc.length + (Sw.vary left).length = (Sw.vary n).length := by rw [← hv, List.length_append]
    have hbd : acc.length < sizeLine := by rw [sizeLine_eq]; omega
    refine ⟨_, rfl, _, _, rfl, rfl, _, rfl, ?_⟩
    by_cases c : left < 128
    · rw [decide_eq_false (show ¬ ((128 : Int) ≤ ((left : Nat) : Int)) by omega)]
      refine iteF ⟨_, rfl, .inl ⟨rfl, _, SqL.of hG⟩, _, rfl, x, _, _, rfl, rfl, hG, by rw [List.length_map]; exact hbd, _, rfl, ?_⟩
      refine q x _ (fun b o e => (upd_ne (ne_of_none e hx)).trans (k b o e)) hx ?_
      rw [upd_same, ← hv, vary_lt c, List.map_append]
      show _ = some (HO.lst (acc.map bv ++ [bv (UInt8.ofNat left)]))
      rw [bv_of (by omega)]
    · rw [decide_eq_true (show ((128 : Int) ≤ ((left : Nat) : Int)) by omega)]
      refine iteT ⟨_, fun σ' G' h => h, ?_⟩
      refine ⟨_, rfl, .inl ⟨rfl, _, SqL.of hG⟩, _, rfl, _, _, rfl, rfl, (by show (0 : Int) < 128; decide), _, _, rfl, rfl, x, _, _, rfl, rfl, hG, by rw [List.length_map]; exact hbd, ?_⟩
      refine ⟨_, rfl, _, _, rfl, rfl, ⟨by decide, by decide⟩, left / 128, by omega, acc ++ [UInt8.ofNat (128 + left % 128)], left / 128, ?_, fun b o e => (upd_ne (ne_of_none e hx)).trans (k b o e), ?_, ?_, rfl⟩
      · show [some (V.int (n : Int)), some (V.ref x), some (V.int (((left : Nat) : Int) / 128))] = _
        rw [show (((left : Nat) : Int) / 128) = ((left / 128 : Nat) : Int) by omega]
      · rw [upd_same, List.map_append]
        show some (HO.lst (acc.map bv ++ [V.int (((left : Nat) : Int) % 128 + 128)])) = some (HO.lst (acc.map bv ++ [bv (UInt8.ofNat (128 + left % 128))]))
        rw [bv_of (by omega), show (((left : Nat) : Int) % 128 + 128) = ((128 + left % 128 : Nat) : Int) by omega]
      · rw [List.append_assoc]
        show acc ++ (UInt8.ofNat (128 + left % 128) :: Sw.vary (left / 128)) = _
        rw [← vary_ge c, hv]
end
end L2.J

set_option Elab.async false
set_option linter.all false
set_option maxRecDepth 100000
set_option maxHeartbeats 2000000
namespace L2.J
open PySem PySem.Spec PyProof.Rows L2.XC
/-! ### a number's bytes -/
def spAR : Sp := fun vs H Q _ => ∃ n : Nat, vs = [.int (n : Int)] ∧ Sw.amountLength n ≤ 100000 ∧ ∀ (x : Addr) (H' : Hp), Same H H' → H x = none → H' x = some (.lst ((Sw.le (Sw.amountLength n) n).map bv)) → Q (.ref x) H'
def spNR : Sp := fun vs H Q _ => ∃ z : Int, vs = [.int z] ∧ Sw.amountLength z.natAbs ≤ 100000 ∧ ∀ (x : Addr) (H' : Hp), Same H H' → H x = none → H' x = some (.lst ((2 :: Sw.numberBytes z).map bv)) → Q (.ref x) H'
section
variable {P : Program} {w : World} {K : PySem.W.Frag} {mg : Str → Option Value} {base : Heap}
theorem scAR : FnScope ["amount", "row", "left"] ["amount"] (defScope sAR) := ⟨rfl, rfl, rfl, by decide +kernel, rfl, by decide +kernel, by decide +kernel⟩
theorem ok_AR {f : Addr} {fd : FuncData} (F : Fun K "amount_row" "amount_row" sAR f fd) : FnOk P w K mg base CX0 1 f fd ["amount"] spAR := by
  refine F.ok scAR (fun vs H Q E h => ?_) (fun cdv A outer s H vs Q E hr h => ?_)
  · obtain ⟨n, rfl, _⟩ := h
    rfl
  · obtain ⟨n, rfl, hn, q⟩ := h
    refine ⟨_, pss_cons (ps_set (i := 1) scAR.nd rfl (Or.inl rfl) (pe_lst pa_nil))
      (pss_cons (ps_set (i := 2) scAR.nd rfl (Or.inl rfl) (pv 0))
      (pss_cons (ps_while PassesOwn.never (pt_cmpR op_gt (pv 2) pe_int (nomark _))
        (pss_cons (ps_expr (pe_bm PySem.F.plainAttrs_list PySem.F.slot_list_append PySem.F.type_list_append mt_append (pv 1) (pa_cons (pe_op op_mod (pv 2) pe_int) pa_nil)))
        (pss_one (ps_set (i := 2) scAR.nd rfl (Or.inl rfl) (pe_op op_fdiv (pv 2) pe_int)))))
      (pss_one (ps_ret (pv 1))))), ?_⟩
    refine ⟨(by show 0 ≤ sizeLine; decide), fun x hx => ?_⟩
    refine ⟨_, rfl, fun m σ G => ∃ (acc : List UInt8) (left : Nat), σ = [some (.int (n : Int)), some (.ref x), some (.int (left : Int))] ∧ Same H G ∧ G x = some (.lst (acc.map bv)) ∧ acc ++ Sw.le (Sw.amountLength left) left = Sw.le (Sw.amountLength n) n ∧ m = left, ⟨n, [], n, rfl, fun b o e => (upd_ne (ne_of_none e hx)).trans e, upd_same, rfl, rfl⟩, ?_⟩
    rintro m σ G ⟨acc, left, rfl, k, hG, hv, hm⟩
    have hal : acc.length + Sw.amountLength left = Sw.amountLength n := by
      have := congrArg List.length hv
      rw [List.length_append, Pm.le_len, Pm.le_len] at this
      exact this
    have hbd : acc.length < sizeLine := by rw [sizeLine_eq]; omega
    refine ⟨_, rfl, _, _, rfl, rfl, _, rfl, ?_⟩
    by_cases c : left = 0
    · rw [decide_eq_false (show ¬ ((0 : Int) < ((left : Nat) : Int)) by omega)]
      refine iteF ⟨_, rfl, q x G k hx ?_⟩
      rw [c, Pm.amount_zero] at hv
      rw [hG, ← hv]
      show some (HO.lst (acc.map bv)) = some (HO.lst ((acc ++ []).map bv))
      rw [List.append_nil]
    · rw [decide_eq_true (show ((0 : Int) < ((left : Nat) : Int)) by omega)]
      refine iteT ⟨_, fun σ' G' h => h, ?_⟩
      refine ⟨_, rfl, .inl ⟨rfl, _, SqL.of hG⟩, _, rfl, _, _, rfl, rfl, (by show (0 : Int) < 256; decide), x, _, _, rfl, rfl, hG, by rw [List.length_map]; exact hbd, ?_⟩
      refine ⟨_, rfl, _, _, rfl, rfl, ⟨by decide, by decide⟩, left / 256, by omega, acc ++ [UInt8.ofNat (left % 256)], left / 256, ?_, fun b o e => (upd_ne (ne_of_none e hx)).trans (k b o e), ?_, ?_, rfl⟩
      · show [some (V.int (n : Int)), some (V.ref x), some (V.int (((left : Nat) : Int) / 256))] = _
        rw [show (((left : Nat) : Int) / 256) = ((left / 256 : Nat) : Int) by omega]
      · rw [upd_same, List.map_append]
        show some (HO.lst (acc.map bv ++ [V.int (((left : Nat) : Int) % 256)])) = some (HO.lst (acc.map bv ++ [bv (UInt8.ofNat (left % 256))]))
        rw [bv_of (by omega), show (((left : Nat) : Int) % 256) = ((left % 256 : Nat) : Int) by omega]
      · rw [List.append_assoc]
        show acc ++ (UInt8.ofNat (left % 256) :: Sw.le (Sw.amountLength (left / 256)) (left / 256)) = _
        rw [← Pm.amountRow_pos c, hv]
theorem scNR : FnScope ["number", "amount", "below_0"] ["number"] (defScope sNR) := ⟨rfl, rfl, rfl, by decide +kernel, rfl, by decide +kernel, by decide +kernel⟩
theorem ok_NR {f fAR fVR : Addr} {fd fdA fdV : FuncData} (F : Fun K "number_row" "number_row" sNR f fd) (k2 : GI mg "NUMBER" 2) (len : mg "len" = none) (abs : mg "abs" = none)
    (GA : FnOk P w K mg base CX0 1 fAR fdA ["amount"] spAR) (bA : Binds K fdA ["amount"] []) (kA : PySem.W.keepIn K (.ref fAR) = true) (mA : mg "amount_row" = some (.ref fAR))
    (GV : FnOk P w K mg base CX0 1 fVR fdV ["amount"] spVR) (bV : Binds K fdV ["amount"] []) (kV : PySem.W.keepIn K (.ref fVR) = true) (mV : mg "vary_row" = some (.ref fVR)) :
    FnOk P w K mg base CX0 2 f fd ["number"] spNR := by
  refine F.ok scNR (fun vs H Q E h => ?_) (fun cdv A outer s H vs Q E hr h => ?_)
  · obtain ⟨z, rfl, _⟩ := h
    rfl
  · obtain ⟨z, rfl, hz, q⟩ := h
    refine ⟨_, pss_cons (ps_set (i := 1) scNR.nd rfl (Or.inl rfl) (pe_call GA hr rfl mA kA bA .nil pass0 (pa_cons (pe_callB call_abs rfl abs PyProof.Rows.boot_abs (pa_cons (pv 0) pa_nil)) pa_nil)))
      (pss_cons (ps_set (i := 2) scNR.nd rfl (Or.inl rfl) (pe_ifExp (pt_cmpR op_lt (pv 0) pe_int (nomark _)) pe_int pe_int))
      (pss_one (ps_ret (pe_op op_catL (pe_op op_catL (pe_lst (pa_cons (pgi k2 rfl) pa_nil)) (pe_call GV hr rfl mV kV bV .nil pass0 (pa_cons (pe_op op_add (pe_op op_mul pe_int (pe_callB call_len_seq (by rfl) len PySem.boot_len (pa_cons (pv 1) pa_nil))) (pv 2)) pa_nil))) (pv 1))))), ?_⟩
    have ha : (if z < 0 then -z else z) = ((z.natAbs : Nat) : Int) := by
      by_cases c : z < 0
      · rw [if_pos c]; omega
      · rw [if_neg c]; omega
    refine ⟨_, rfl, z, rfl, ?_⟩
    rw [ha]
    refine ⟨z.natAbs, rfl, hz, fun x H1 k1 hx h1 => ?_⟩
    generalize hL : Sw.amountLength z.natAbs = L at hz h1
    have hlen : (Sw.le L z.natAbs).length = L := Pm.le_len _ _
    refine ⟨_, rfl, _, _, rfl, rfl, _, rfl, ?_⟩
    by_cases c : z < 0
    case' pos =>
      have ez : (2 * L + if z < 0 then 1 else 0) = 2 * L + 1 := by rw [if_pos c]
      rw [decide_eq_true c]
      refine iteT ?_
    case' neg =>
      have ez : (2 * L + if z < 0 then 1 else 0) = 2 * L + 0 := by rw [if_neg c]
      rw [decide_eq_false c]
      refine iteF ?_
    all_goals (
      refine ⟨(by show 1 ≤ sizeLine; decide), fun y hy => ?_⟩
      have hx1 : upd H1 y (.lst [V.int 2]) x = some (.lst ((Sw.le L z.natAbs).map bv)) := (upd_ne (ne_of_none h1 hy)).trans h1
      have ky : Same H1 (upd H1 y (.lst [V.int 2])) := fun b o e => (upd_ne (ne_of_none e hy)).trans e
      refine ⟨_, rfl, x, _, rfl, .inl (SqL.of hx1), _, _, rfl, rfl, .inl ⟨by decide, by decide⟩, _, rfl, _, _, rfl, rfl, (2 * L + if z < 0 then 1 else 0), congrArg (fun t => [V.int t]) (by rw [ez, List.length_map, hlen]; omega), ?_, fun x2 H2 k2 hx2 h2 => ?_⟩
      · rw [ez]
        omega
      · have l5 := vary_len5 (n := 2 * L + if z < 0 then 1 else 0) (by rw [ez]; omega)
        refine ⟨y, x2, _, _, rfl, rfl, SqL.of (k2 _ _ upd_same), SqL.of h2, ?_, fun p hp => ?_⟩
        · rw [List.length_map, sizeLine_eq]
          show 1 + _ ≤ _
          omega
        · have hx3 : upd H2 p (.lst ([V.int 2] ++ (Sw.vary (2 * L + if z < 0 then 1 else 0)).map bv)) x = some (.lst ((Sw.le L z.natAbs).map bv)) := (upd_ne (ne_of_none (k2 _ _ hx1) hp)).trans (k2 _ _ hx1)
          refine ⟨_, rfl, p, x, _, _, rfl, rfl, SqL.of upd_same, SqL.of hx3, ?_, fun p2 hp2 => ?_⟩
          · rw [List.length_append, List.length_map, List.length_map, sizeLine_eq, hlen]
            show 1 + _ + _ ≤ _
            omega
          · have kk : Same H1 (upd H2 p (.lst ([V.int 2] ++ (Sw.vary (2 * L + if z < 0 then 1 else 0)).map bv))) := fun b o e => (upd_ne (ne_of_none (k2 _ _ (ky b o e)) hp)).trans (k2 _ _ (ky b o e))
            refine q p2 _ (fun b o e => (upd_ne (ne_of_none (kk _ _ (k1 b o e)) hp2)).trans (kk _ _ (k1 b o e))) ((k1.trans kk).free hp2) ?_
            rw [upd_same]
            unfold Sw.numberBytes
            rw [hL, List.map_cons, List.map_append]
            rfl)
end
end L2.J

set_option Elab.async false
set_option linter.all false
set_option maxRecDepth 100000
set_option maxHeartbeats 2000000
namespace L2.J
open PySem PySem.Spec PyProof.Rows L2.XC
/-! ### signs, names, quoted texts -/
/-- a new list of bytes is given back -/
def Nw (H : Hp) (Q : VK) (r : List UInt8) : Prop := ∀ (x : Addr) (H' : Hp), H x = none → H' x = some (.lst (r.map bv)) → Same H H' → Q (.ref x) H'
def spB1 (g : UInt8 → Bool) : Sp := fun vs H Q _ => ∃ c : UInt8, vs = [bv c] ∧ Q (.bl (g c)) H
def sB (r : List UInt8) : Str := sOf (r.map (·.toNat))
def spSO : Sp := fun vs H Q _ => ∃ r : List UInt8, vs = [.str (sB r)] ∧ r.length < 16000000 ∧ Nw H Q r
def spSI (K : PySem.W.Frag) : Sp := fun vs H Q _ => ∃ (a : Addr) (n : List UInt8), vs = [.ref a] ∧ SqL K H a (n.map bv) ∧ n.length ≤ 65536 ∧ ∀ H' : Hp, Same H H' → Q (.bl (Sw.bare n)) H'
structure TxS (mg : Str → Option Value) : Prop where
  len : mg "len" = none
  ord : mg "ord" = none
  all : mg "all" = none
  qu : GI mg "QUOTE" 34
  bs : GI mg "BACKSLASH" 92
  lf : GI mg "LINE_FEED" 10
  sn : GI mg "SMALL_N" 110
  rc : GI mg "RECORD_CLOSE" 125
  ul : GI mg "UNDERLINE" 95
  bl : GI mg "BLANK" 32
  de : GI mg "DELETE" 127
section
variable {P : Program} {w : World} {K : PySem.W.Frag} {mg : Str → Option Value} {base : Heap} {CF CR CP fFI : Addr}
theorem scI1 : FnScope ["byte"] ["byte"] (defScope sI1) := ⟨rfl, rfl, rfl, by decide +kernel, rfl, by decide +kernel, by decide +kernel⟩
theorem betweenV {lo hi : Nat} {c : UInt8} {i : Nat} {σ : St} {H : Hp} {Q : VK} (h : σ[i]? = some (some (bv c))) (q : Q (.bl (decide (lo ≤ c.toNat) && decide (c.toNat ≤ hi))) H) :
    tChain (rI0 fun i j => V.bl (decide (i ≤ j))) (rI0 fun i j => V.bl (decide (i ≤ j))) (tC (.int (lo : Int))) (tVar i) (tC (.int (hi : Int))) σ H Q := by
  refine ⟨_, h, _, _, rfl, rfl, _, rfl, ?_⟩
  by_cases h1 : lo ≤ c.toNat
  · rw [decide_eq_true (show (lo : Int) ≤ (c.toNat : Int) by omega)]
    refine iteT ⟨_, _, rfl, rfl, ?_⟩
    rw [decide_eq_true h1, Bool.true_and] at q
    show Q (V.bl (decide ((c.toNat : Int) ≤ (hi : Int)))) H
    rw [show decide ((c.toNat : Int) ≤ (hi : Int)) = decide (c.toNat ≤ hi) from decide_eq_decide.mpr (by omega)]
    exact q
  · rw [decide_eq_false (show ¬ (lo : Int) ≤ (c.toNat : Int) by omega)]
    rw [decide_eq_false h1, Bool.false_and] at q
    exact iteF q
theorem ok_I1 {f : Addr} {fd : FuncData} (F : Fun K "is_ten" "is_ten" sI1 f fd) : FnOk P w K mg base CX0 1 f fd ["byte"] (spB1 Sw.isDigit) := by
  refine F.ok scI1 (fun vs H Q E h => ?_) (fun cdv A outer s H vs Q E hr h => ?_)
  · obtain ⟨c, rfl, _⟩ := h
    rfl
  · obtain ⟨c, rfl, q⟩ := h
    exact ⟨_, pss_one (ps_ret (pe_chain op_le op_le pe_int (pv 0) pe_int)), betweenV (lo := 48) (hi := 57) rfl q⟩
theorem scIL : FnScope ["byte"] ["byte"] (defScope sIL) := ⟨rfl, rfl, rfl, by decide +kernel, rfl, by decide +kernel, by decide +kernel⟩
theorem ok_IL {f : Addr} {fd : FuncData} (F : Fun K "is_small_letter" "is_small_letter" sIL f fd) : FnOk P w K mg base CX0 1 f fd ["byte"] (spB1 Sw.isSmall) := by
  refine F.ok scIL (fun vs H Q E h => ?_) (fun cdv A outer s H vs Q E hr h => ?_)
  · obtain ⟨c, rfl, _⟩ := h
    rfl
  · obtain ⟨c, rfl, q⟩ := h
    exact ⟨_, pss_one (ps_ret (pe_chain op_le op_le pe_int (pv 0) pe_int)), betweenV (lo := 97) (hi := 122) rfl q⟩
theorem scIG : FnScope ["byte"] ["byte"] (defScope sIG) := ⟨rfl, rfl, rfl, by decide +kernel, rfl, by decide +kernel, by decide +kernel⟩
theorem ok_IG {f fIL fI1 : Addr} {fd fdL fd1 : FuncData} (F : Fun K "is_name_sign" "is_name_sign" sIG f fd) (T : TxS mg)
    (GL : FnOk P w K mg base CX0 1 fIL fdL ["byte"] (spB1 Sw.isSmall)) (bL : Binds K fdL ["byte"] []) (kL : PySem.W.keepIn K (.ref fIL) = true) (mL : mg "is_small_letter" = some (.ref fIL))
    (G1 : FnOk P w K mg base CX0 1 fI1 fd1 ["byte"] (spB1 Sw.isDigit)) (b1 : Binds K fd1 ["byte"] []) (k1 : PySem.W.keepIn K (.ref fI1) = true) (m1 : mg "is_ten" = some (.ref fI1)) :
    FnOk P w K mg base CX0 2 f fd ["byte"] (spB1 Sw.inName) := by
  refine F.ok scIG (fun vs H Q E h => ?_) (fun cdv A outer s H vs Q E hr h => ?_)
  · obtain ⟨c, rfl, _⟩ := h
    rfl
  · obtain ⟨c, rfl, q⟩ := h
    refine ⟨_, pss_one (ps_ret (pe_or (pe_call GL hr rfl mL kL bL .nil pass0 (pa_cons (pv 0) pa_nil)) (pe_or (pe_call G1 hr rfl m1 k1 b1 .nil pass0 (pa_cons (pv 0) pa_nil)) (pe_one (pe_cmpR op_eq (pv 0) (pgi T.ul rfl) (nomark _)))))), ?_⟩
    unfold Sw.inName at q
    refine ⟨_, rfl, c, rfl, _, rfl, ?_⟩
    cases e1 : Sw.isSmall c with
    | true =>
      rw [e1] at q
      exact iteT q
    | false =>
      rw [e1, Bool.false_or] at q
      refine iteF ⟨_, rfl, c, rfl, _, rfl, ?_⟩
      cases e2 : Sw.isDigit c with
      | true =>
        rw [e2] at q
        exact iteT q
      | false =>
        rw [e2, Bool.false_or] at q
        refine iteF ⟨_, rfl, rfl, ?_⟩
        have e : decide (bv c = V.int 95) = (c == 95) := by
          by_cases h : c = 95
          · subst h; rfl
          · have hn : ¬ c.toNat = 95 := fun z => h (UInt8.toNat_inj.mp z)
            rw [beq_eq_false_iff_ne.mpr h]
            show decide (V.int (c.toNat : Int) = V.int 95) = false
            rw [dint]
            exact decide_eq_false (by omega)
        rw [e]
        exact q
theorem scIU : FnScope ["scalar"] ["scalar"] (defScope sIU) := ⟨rfl, rfl, rfl, by decide +kernel, rfl, by decide +kernel, by decide +kernel⟩
theorem yes_if {σ : St} {H : Hp} {A B : Hp → Prop} (h : A H) : tYes σ H (fun b H3 => if b = true then A H3 else B H3) := by
  show (if true = true then A H else B H)
  rw [if_pos rfl]
  exact h
theorem scSO : FnScope ["words", "sign"] ["words"] (defScope sSO) := ⟨rfl, rfl, rfl, by decide +kernel, rfl, by decide +kernel, by decide +kernel⟩
theorem ok_SO {f : Addr} {fd : FuncData} (F : Fun K "signs_of" "signs_of" sSO f fd) (T : TxS mg) : FnOk P w K mg base CX0 1 f fd ["words"] spSO := by
  refine F.ok scSO (fun vs H Q E h => ?_) (fun cdv A outer s H vs Q E hr h => ?_)
  · obtain ⟨r, rfl, _⟩ := h
    rfl
  · obtain ⟨r, rfl, hz, q⟩ := h
    refine ⟨_, pss_one (ps_ret (pe_lc rfl scSO.nd (pi_str (pv 0)) (blkOk_by (own := [("sign", 1)]) (by kernel_rfl))
      (fun s H C cl fp => pg_name (i := 1) scSO.nd rfl (Or.inl rfl)) (fun s H C cl fp => pts_nil) (fun s H C cl fp => pe_callB call_ord (by rfl) T.ord PyProof.Rows.boot_ord (pa_cons (pv 1) pa_nil)))), ?_⟩
    refine ⟨_, rfl, _, rfl, fun D hD => ?_⟩
    refine lc_str (x := sB r) (fun i G => Same H G ∧ G D = some (.lst ((r.take i).map bv))) ?_ ?_ ?_
    · exact ⟨fun c o e => (upd_ne (ne_of_none e hD)).trans e, upd_same⟩
    · rintro i c G hc ⟨kG, hDl⟩
      have hc : (r.map (·.toNat))[i]? = some c := by
        have hc : ((r.map (·.toNat)).toArray)[i]? = some c := hc
        simpa using hc
      rw [List.getElem?_map] at hc
      cases er : r[i]? with
      | none => rw [er] at hc; cases hc
      | some b =>
        rw [er] at hc
        have hc : b.toNat = c := Option.some.inj hc
        subst hc
        have hi : i < r.length := (List.getElem?_eq_some_iff.mp er).1
        refine ⟨rfl, yes_if ?_⟩
        refine ⟨_, rfl, _, rfl, rfl, _, hDl, ?_, ?_⟩
        · rw [List.length_map, List.length_take, sizeLine_eq]
          omega
        · refine ⟨fun c o e => (upd_ne (ne_of_none e hD)).trans (kG c o e), ?_⟩
          rw [upd_same, List.take_add_one, er, List.map_append]
          rfl
    · rintro G ⟨kG, hDl⟩
      refine q D G hD ?_ kG
      have e : (sB r).cps.size = r.length := by
        show ((r.map (·.toNat)).toArray).size = _
        simp
      rw [e, List.take_length] at hDl
      exact hDl
theorem scSI : FnScope ["name", "byte"] ["name"] (defScope sSI) := ⟨rfl, rfl, rfl, by decide +kernel, rfl, by decide +kernel, by decide +kernel⟩
theorem ok_SI {f fIL fIG : Addr} {fd fdL fdG : FuncData} (F : Fun K "stands_as_it_is" "stands_as_it_is" sSI f fd) (T : TxS mg)
    (GL : FnOk P w K mg base CX0 1 fIL fdL ["byte"] (spB1 Sw.isSmall)) (bL : Binds K fdL ["byte"] []) (kL : PySem.W.keepIn K (.ref fIL) = true) (mL : mg "is_small_letter" = some (.ref fIL))
    (GG : FnOk P w K mg base CX0 2 fIG fdG ["byte"] (spB1 Sw.inName)) (bG : Binds K fdG ["byte"] []) (kG : PySem.W.keepIn K (.ref fIG) = true) (mG : mg "is_name_sign" = some (.ref fIG)) :
    FnOk P w K mg base CX0 3 f fd ["name"] (spSI K) := by
  refine F.ok scSI (fun vs H Q E h => ?_) (fun cdv A outer s H vs Q E hr h => ?_)
  · obtain ⟨a, n, rfl, _⟩ := h
    rfl
  · obtain ⟨a, n, rfl, hs, hz, q⟩ := h
    have hr1 : Room 1 _ := hr.mono (by decide)
    refine ⟨_, pss_one (ps_ret (pe_and (pe_cmpR op_gt (pe_callB call_len_seq (by rfl) T.len PySem.boot_len (pa_cons (pv 0) pa_nil)) pe_int (nomark _))
      (pe_and (pe_call GL hr1 rfl mL kL bL .nil pass0 (pa_cons (pe_ix ix_list (pv 0) pe_int (fun _ _ => rfl)) pa_nil))
      (pe_one (pe_callB (call_allL rfl) (by rfl) T.all PyProof.Rows.boot_all (pa_cons (pe_lc rfl scSI.nd (pi_list (pv 0)) (blkOk_by (own := [("byte", 1)]) (by kernel_rfl))
        (fun s H C cl fp => pg_name (i := 1) scSI.nd rfl (Or.inl rfl)) (fun s H C cl fp => pts_nil) (fun s H C cl fp => pe_call GG hr rfl mG kG bG .nil pass0 (pa_cons (pv 1) pa_nil))) pa_nil)))))), ?_⟩
    rw [Pm.bare_is] at q
    refine ⟨_, rfl, a, _, rfl, .inl hs, _, _, rfl, rfl, _, rfl, ?_⟩
    rw [List.length_map]
    cases n with
    | nil =>
      exact iteF (q H fun _ _ e => e)
    | cons c r =>
      rw [decide_eq_true (show (0 : Int) < (((c :: r).length : Nat) : Int) by rw [List.length_cons]; omega)]
      refine iteT ⟨_, rfl, a, _, _, bv c, rfl, rfl, hs, at_of (j := 0) rfl rfl, c, rfl, _, rfl, ?_⟩
      rw [decide_eq_true (show 0 < (c :: r).length from Nat.succ_pos _), Bool.true_and] at q
      have q : ∀ H' : Hp, Same H H' → Q (V.bl (Sw.isSmall c && (c :: r).all Sw.inName)) H' := q
      cases e1 : Sw.isSmall c with
      | false =>
        rw [e1] at q
        exact iteF (q H fun _ _ e => e)
      | true =>
        rw [e1, Bool.true_and] at q
        refine iteT ⟨_, rfl, a, rfl, ⟨_, hs⟩, fun D hD => ?_⟩
        refine lc_list (xs := (c :: r).map bv) (fun i G => Same H G ∧ G D = some (.lst ((((c :: r).take i).map Sw.inName).map V.bl))) ?_ ?_ ?_ ?_
        · exact ⟨fun c o e => (upd_ne (ne_of_none e hD)).trans e, upd_same⟩
        · rintro i G _ ⟨kG, _⟩
          exact kG.seq hs
        · rintro i x G hx ⟨kG, hDl⟩
          rw [List.getElem?_map] at hx
          cases er : (c :: r)[i]? with
          | none => rw [er] at hx; cases hx
          | some b =>
            rw [er] at hx
            have hx : bv b = x := Option.some.inj hx
            subst hx
            have hi : i < (c :: r).length := (List.getElem?_eq_some_iff.mp er).1
            refine ⟨rfl, yes_if ?_⟩
            refine ⟨_, rfl, b, rfl, _, hDl, ?_, ?_⟩
            · rw [List.length_map, List.length_map, List.length_take, sizeLine_eq]
              omega
            · refine ⟨fun c o e => (upd_ne (ne_of_none e hD)).trans (kG c o e), ?_⟩
              rw [upd_same, List.take_add_one, er, List.map_append, List.map_append]
              rfl
        · rintro G ⟨kG, hDl⟩
          rw [List.length_map, List.take_length] at hDl
          refine ⟨D, _, rfl, SqL.of hDl, ?_⟩
          have e : ((c :: r).map Sw.inName).all id = (c :: r).all Sw.inName := by rw [List.all_map]; rfl
          rw [e]
          exact q G kG
end
end L2.J

set_option Elab.async false
set_option linter.all false
set_option maxRecDepth 100000
set_option maxHeartbeats 2000000
namespace L2.J
open PySem PySem.Spec PyProof.Rows L2.XC
/-! ### signs that must stand -/
def spRG (K : PySem.W.Frag) (CF CR : Addr) : Sp := fun vs H Q E => ∃ (r a : Addr) (p : Nat) (bs : List UInt8) (c : UInt8), vs = [.ref r, bv c] ∧ RdAt CR H r a p ∧ SqL K H a (bs.map bv) ∧ p ≤ bs.length ∧
  Out E CF (Sw.just p [c] (bs.drop p)) fun _ => ∀ H' : Hp, RdAt CR H' r a (p + 1) → Kp H H' r → Q .non H'
def spXW (K : PySem.W.Frag) (CF CR : Addr) : Sp := fun vs H Q E => ∃ (r a : Addr) (p : Nat) (bs ws : List UInt8), vs = [.ref r, .str (sB ws)] ∧ ws.length < 1000 ∧ RdAt CR H r a p ∧ SqL K H a (bs.map bv) ∧ p ≤ bs.length ∧
  Out E CF (Sw.just p ws (bs.drop p)) fun _ => ∀ H' : Hp, RdAt CR H' r a (p + ws.length) → Kp H H' r → p + ws.length ≤ bs.length → Q .non H'
/-- what stands at a place -/
theorem drop_at {bs : List UInt8} {p : Nat} {c : UInt8} (h : bs[p]? = some c) : bs.drop p = c :: bs.drop (p + 1) := by
  obtain ⟨hl, e⟩ := List.getElem?_eq_some_iff.mp h
  rw [List.drop_eq_getElem_cons hl, e]
theorem drop_end {bs : List UInt8} {p : Nat} (h : bs[p]? = none) (hp : p ≤ bs.length) : bs.drop p = [] ∧ p = bs.length := by
  have := List.getElem?_eq_none_iff.mp h
  exact ⟨List.drop_of_length_le this, by omega⟩
theorem bv_inj {c d : UInt8} : decide (bv c = bv d) = decide (c = d) := by
  unfold bv
  rw [dint]
  by_cases h : c = d
  · rw [h, decide_eq_true rfl, decide_eq_true rfl]
  · rw [decide_eq_false h, decide_eq_false (fun z => h (UInt8.toNat_inj.mp (by omega)))]
theorem just_cons {p : Nat} {c : UInt8} {w b : List UInt8} : Sw.just p (c :: w) (c :: b) = Sw.just (p + 1) w b := by
  show (if c = c then Sw.just (p + 1) w b else _) = _
  rw [if_pos rfl]
section
variable {P : Program} {w : World} {K : PySem.W.Frag} {mg : Str → Option Value} {base : Heap} {CF CR fFI : Addr}
theorem scRG : FnScope ["self", "sign"] ["self", "sign"] (defScope sRG) := ⟨rfl, rfl, rfl, by decide +kernel, rfl, by decide +kernel, by decide +kernel⟩
theorem ok_RG {f fSB : Addr} {fd fdS fdI : FuncData} (F : Fun K "read_sign" "Reader.read_sign" sRG f fd) (T : TxR K mg CF CR fFI) (FI : Fun K "__init__" "Fault.__init__" sFI fFI fdI) (bI : Binds K fdI ["self", "kind", "place"] [])
    (GS : FnOk P w K mg base (CXF P w) 3 fSB fdS ["self"] (spSB K CF CR)) (bS : Binds K fdS ["self"] []) (mS : Meth K CR "see_byte" fSB) :
    FnOk P w K mg base (CXF P w) 4 f fd ["self", "sign"] (spRG K CF CR) := by
  have GI : FnOk P w K mg base CX0 1 fFI fdI ["self", "kind", "place"] (spXI CF) := ok_FI FI T
  refine okX F scRG (fun vs H Q E h => ?_) (fun cdv A outer s H vs Q E hr h => ?_)
  · obtain ⟨r, a, p, bs, c, rfl, _⟩ := h
    rfl
  · obtain ⟨r, a, p, bs, c, rfl, ⟨dx, hr1⟩, hs, hp, q⟩ := h
    have hr2 : Room 2 _ := hr.mono (by decide)
    refine ⟨_, pss_cons (ps_if (pt_cmpR op_ne (pe_meth0 (pv 0) T.cR mS GS hr bS .nil passX) (pv 1) (nomark _))
        (pss_one (ps_raise T.xc GI bI hr2 flies_cx rfl rfl T.mF (pa_cons (pgi T.e2 rfl) (pa_cons (pe_fld (pv 0) rfl) pa_nil)))) pss_nil)
      (pss_one (ps_fldaug (pv 0) pe_int in_add)), ?_⟩
    refine ⟨_, rfl, r, dx, _, rfl, hr1, rf_no a p (by decide +kernel) (by decide +kernel), r, a, p, bs, rfl, ⟨dx, hr1⟩, hs, ?_⟩
    cases e : bs[p]? with
    | none =>
      obtain ⟨e1, e2⟩ := drop_end e hp
      rw [e1] at q
      have q : Err E CF (.int 1) (.int (p : Int)) := q
      rw [e2] at q
      exact q
    | some d =>
      rw [drop_at e] at q
      refine ⟨_, rfl, rfl, _, rfl, ?_⟩
      rw [bv_inj]
      have q : Out E CF (if c = d then Except.ok () else Except.error ⟨2, p⟩) fun _ => ∀ H' : Hp, RdAt CR H' r a (p + 1) → Kp H H' r → Q .non H' := q
      by_cases hc : d = c
      · rw [if_pos hc.symm] at q
        have q : ∀ H' : Hp, RdAt CR H' r a (p + 1) → Kp H H' r → Q .non H' := q
        rw [decide_eq_true hc]
        refine iteF ⟨_, rfl, r, CR, dx, _, _, rfl, hr1, T.cR, T.nPl, rf_place a p, _, _, rfl, rfl, dx, _, hr1, (by show 2 < 1000; decide), q _ ⟨dx, ?_⟩ fun b o e n => by rw [upd_ne n]; exact e⟩
        rw [upd_same]
        rfl
      · rw [if_neg (fun z => hc z.symm)] at q
        have q : Err E CF (.int 2) (.int (p : Int)) := q
        rw [decide_eq_false hc]
        exact iteT ⟨_, rfl, r, CR, dx, _, _, rfl, hr1, T.cR, T.nPl, rf_place a p, _, _, rfl, q⟩
theorem scXW : FnScope ["reader", "words", "sign"] ["reader", "words"] (defScope sXW) := ⟨rfl, rfl, rfl, by decide +kernel, rfl, by decide +kernel, by decide +kernel⟩
theorem ok_XW {f fRG fSO : Addr} {fd fdG fdS : FuncData} (F : Fun K "read_word" "read_word" sXW f fd) (T : TxR K mg CF CR fFI)
    (GG : FnOk P w K mg base (CXF P w) 4 fRG fdG ["self", "sign"] (spRG K CF CR)) (bG : Binds K fdG ["self", "sign"] []) (mG : Meth K CR "read_sign" fRG)
    (GS : FnOk P w K mg base CX0 1 fSO fdS ["words"] spSO) (bS : Binds K fdS ["words"] []) (kS : PySem.W.keepIn K (.ref fSO) = true) (mS : mg "signs_of" = some (.ref fSO)) :
    FnOk P w K mg base (CXF P w) 5 f fd ["reader", "words"] (spXW K CF CR) := by
  refine okX F scXW (fun vs H Q E h => ?_) (fun cdv A outer s H vs Q E hr h => ?_)
  · obtain ⟨r, a, p, bs, ws, rfl, _⟩ := h
    rfl
  · obtain ⟨r, a, p, bs, ws, rfl, hw, hrd, hs, hp, q⟩ := h
    have hr1 : Room 1 _ := hr.mono (by decide)
    refine ⟨_, pss_one (ps_for PassesOwn.leaving rfl (pi_list (pe_call GS hr1 rfl mS kS bS .nil pass0 (pa_cons (pv 1) pa_nil))) (pg_name (i := 2) scXW.nd rfl (Or.inl rfl))
      (pss_one (ps_expr (pe_meth (pv 0) T.cR mG GG hr bG .nil passX (pa_cons (pv 2) pa_nil))))), ?_⟩
    refine ⟨_, rfl, ws, rfl, by omega, fun x H1 hx h1 k1 => ?_⟩
    have hxr : x ≠ r := fun z => by
      obtain ⟨dx, e⟩ := hrd
      rw [z, e] at hx
      cases hx
    have hrd1 : RdAt CR H1 r a p := let ⟨dx, e⟩ := hrd; ⟨dx, k1 _ _ e⟩
    refine ⟨x, rfl, ⟨_, SqL.of h1⟩, for_list (xs := ws.map bv) (fun i σ G => (∃ v2, σ = [some (.ref r), some (.str (sB ws)), v2]) ∧ RdAt CR G r a (p + i) ∧ Kp H1 G r ∧ p + i ≤ bs.length ∧ Sw.just p ws (bs.drop p) = Sw.just (p + i) (ws.drop i) (bs.drop (p + i))) ⟨⟨none, rfl⟩, hrd1, fun b o e _ => e, hp, rfl⟩ ?_ ?_ ?_⟩
    · rintro i σ G _ ⟨_, _, kG, _⟩
      exact SqL.of (kG _ _ h1 hxr)
    · rintro i y σ G hy ⟨⟨v2, rfl⟩, ⟨dx, hg⟩, kG, hb, ej⟩
      rw [List.getElem?_map] at hy
      cases ew : ws[i]? with
      | none => rw [ew] at hy; cases hy
      | some c =>
        rw [ew] at hy
        have hy : bv c = y := Option.some.inj hy
        subst hy
        have ed : ws.drop i = c :: ws.drop (i + 1) := drop_at ew
        have hsG : SqL K G a (bs.map bv) := by
          obtain ⟨dx1, e1⟩ := hrd1
          exact sq_kp (k1.seq hs) kG e1
        refine ⟨_, rfl, r, dx, _, rfl, hg, rf_no a _ (by decide +kernel) (by decide +kernel), _, rfl, r, a, p + i, bs, c, rfl, ⟨dx, hg⟩, hsG, hb, ?_⟩
        rw [ej, ed] at q
        cases eb : bs[p + i]? with
        | none =>
          obtain ⟨e1, e2⟩ := drop_end eb hb
          rw [e1] at q ⊢
          exact q
        | some d =>
          rw [drop_at eb] at q ⊢
          by_cases hc : c = d
          · subst hc
            rw [just_cons]
            have e0 : ∀ (n : Nat) (l : List UInt8), Sw.just n [] l = .ok () := fun n l => by unfold Sw.just; rfl
            rw [e0]
            intro G' rd kk
            refine ⟨⟨_, rfl⟩, by rw [← Nat.add_assoc]; exact rd, kG.trans kk, ?_, ?_⟩
            · have := (List.getElem?_eq_some_iff.mp eb).1
              omega
            · rw [ej, ed, drop_at eb, just_cons, Nat.add_assoc]
          · have e1 : ∀ (l m : List UInt8), Sw.just (p + i) (c :: l) (d :: m) = .error ⟨2, p + i⟩ := fun l m => if_neg hc
            rw [e1] at q ⊢
            exact q
    · rintro σ G ⟨⟨v2, rfl⟩, rd, kG, hb, ej⟩
      rw [List.length_map] at rd hb ej
      rw [ej, List.drop_length] at q
      have q : ∀ H' : Hp, RdAt CR H' r a (p + ws.length) → Kp H H' r → p + ws.length ≤ bs.length → Q .non H' := by
        have e : ∀ (n : Nat) (l : List UInt8), Sw.just n [] l = .ok () := fun n l => by unfold Sw.just; rfl
        rw [e] at q
        exact q
      exact q G rd (fun b o e n => kG _ _ (k1 _ _ e) n) hb
end
end L2.J

set_option Elab.async false
set_option linter.all false
set_option maxRecDepth 100000
set_option maxHeartbeats 2000000
namespace L2.J
open PySem PySem.Spec PyProof.Rows L2.XC
/-! ### figures -/
def figI (c : UInt8) : Int := match Sw.hexIn c with
  | some x => (x : Int)
  | none => -1
def spFG : Sp := fun vs H Q _ => ∃ c : UInt8, vs = [bv c] ∧ Q (.int (figI c)) H
def figAt (p : Nat) (b : List UInt8) : Except Sw.Fault (Nat × Nat) := match b with
  | [] => .error ⟨1, p⟩
  | c :: _ => match Sw.hexIn c with
    | none => .error ⟨2, p⟩
    | some x => .ok (x, 1)
def twoAt (p : Nat) (b : List UInt8) : Except Sw.Fault (Nat × Nat) := match figAt p b with
  | .error e => .error e
  | .ok (x, _) => match figAt (p + 1) (b.drop 1) with
    | .error e => .error e
    | .ok (y, _) => .ok (16 * x + y, 2)
/-- a def that reads a number -/
def spR1 (K : PySem.W.Frag) (CF CR : Addr) (g : Nat → List UInt8 → Except Sw.Fault (Nat × Nat)) : Sp := fun vs H Q E => ∃ (r a : Addr) (p : Nat) (bs : List UInt8), vs = [.ref r] ∧ RdAt CR H r a p ∧ SqL K H a (bs.map bv) ∧ p ≤ bs.length ∧
  Out E CF (g p (bs.drop p)) fun (x : Nat × Nat) => ∀ H' : Hp, RdAt CR H' r a (p + x.2) → Kp H H' r → p + x.2 ≤ bs.length → Q (.int (x.1 : Int)) H'
theorem figAt_lt {p : Nat} {b : List UInt8} {x n : Nat} (h : figAt p b = .ok (x, n)) : x < 16 ∧ n = 1 ∧ 1 ≤ b.length := by
  cases b with
  | nil => cases h
  | cons c r =>
    cases e : Sw.hexIn c with
    | none =>
      have h : (match Sw.hexIn c with
        | none => Except.error ⟨2, p⟩
        | some x => .ok (x, 1) : Except Sw.Fault (Nat × Nat)) = .ok (x, n) := h
      rw [e] at h
      cases h
    | some y =>
      have h : (match Sw.hexIn c with
        | none => Except.error ⟨2, p⟩
        | some x => .ok (x, 1) : Except Sw.Fault (Nat × Nat)) = .ok (x, n) := h
      rw [e] at h
      cases h
      refine ⟨?_, rfl, by rw [List.length_cons]; omega⟩
      unfold Sw.hexIn Sw.isDigit at e
      by_cases c1 : (decide (48 ≤ c.toNat) && decide (c.toNat ≤ 57)) = true
      · rw [if_pos c1] at e
        rw [Bool.and_eq_true, decide_eq_true_eq, decide_eq_true_eq] at c1
        have e := Option.some.inj e
        omega
      · rw [if_neg c1] at e
        by_cases c2 : 97 ≤ c.toNat ∧ c.toNat ≤ 102
        · rw [if_pos c2] at e
          have e := Option.some.inj e
          omega
        · rw [if_neg c2] at e
          cases e
section
variable {P : Program} {w : World} {K : PySem.W.Frag} {mg : Str → Option Value} {base : Heap} {CF CR fFI : Addr}
theorem scFG : FnScope ["byte"] ["byte"] (defScope sFG) := ⟨rfl, rfl, rfl, by decide +kernel, rfl, by decide +kernel, by decide +kernel⟩
theorem ok_FG {f : Addr} {fd : FuncData} (F : Fun K "figure_of" "figure_of" sFG f fd) : FnOk P w K mg base CX0 1 f fd ["byte"] spFG := by
  refine F.ok scFG (fun vs H Q E h => ?_) (fun cdv A outer s H vs Q E hr h => ?_)
  · obtain ⟨c, rfl, _⟩ := h
    rfl
  · obtain ⟨c, rfl, q⟩ := h
    refine ⟨_, pss_cons (ps_if (pt_chain op_le op_le pe_int (pv 0) pe_int) (pss_one (ps_ret (pe_op op_sub (pv 0) pe_int))) pss_nil)
      (pss_cons (ps_if (pt_chain op_le op_le pe_int (pv 0) pe_int) (pss_one (ps_ret (pe_op op_sub (pv 0) pe_int))) pss_nil)
      (pss_one (ps_ret (pe_un un_neg pe_int)))), ?_⟩
    unfold figI Sw.hexIn Sw.isDigit at q
    refine between (lo := 48) (hi := 57) (c := c.toNat) rfl (ite2 (fun z => ?_) (fun z => ?_))
    · have z := of_decide_eq_true z
      rw [if_pos (by rw [Bool.and_eq_true, decide_eq_true_eq, decide_eq_true_eq]; exact z)] at q
      have q : Q (.int ((c.toNat - 48 : Nat) : Int)) H := q
      rw [show ((c.toNat - 48 : Nat) : Int) = (c.toNat : Int) - 48 by omega] at q
      exact ⟨_, rfl, _, _, rfl, rfl, q⟩
    · have z : ¬ (48 ≤ c.toNat ∧ c.toNat ≤ 57) := fun y => z (decide_eq_true y)
      rw [if_neg (by rw [Bool.and_eq_true, decide_eq_true_eq, decide_eq_true_eq]; exact z)] at q
      refine between (lo := 97) (hi := 102) (c := c.toNat) rfl (ite2 (fun z2 => ?_) (fun z2 => ?_))
      · have z2 := of_decide_eq_true z2
        rw [if_pos z2] at q
        have q : Q (.int ((c.toNat - 87 : Nat) : Int)) H := q
        rw [show ((c.toNat - 87 : Nat) : Int) = (c.toNat : Int) - 87 by omega] at q
        exact ⟨_, rfl, _, _, rfl, rfl, q⟩
      · have z2 : ¬ (97 ≤ c.toNat ∧ c.toNat ≤ 102) := fun y => z2 (decide_eq_true y)
        rw [if_neg z2] at q
        exact ⟨_, rfl, q⟩
theorem scXF : FnScope ["reader", "figure"] ["reader"] (defScope sXF) := ⟨rfl, rfl, rfl, by decide +kernel, rfl, by decide +kernel, by decide +kernel⟩
theorem ok_XF {f fSB fPB fFG : Addr} {fd fdS fdB fdG fdI : FuncData} (F : Fun K "read_figure" "read_figure" sXF f fd) (T : TxR K mg CF CR fFI) (FI : Fun K "__init__" "Fault.__init__" sFI fFI fdI) (bI : Binds K fdI ["self", "kind", "place"] [])
    (GS : FnOk P w K mg base (CXF P w) 3 fSB fdS ["self"] (spSB K CF CR)) (bS : Binds K fdS ["self"] []) (mS : Meth K CR "see_byte" fSB)
    (GB : FnOk P w K mg base (CXF P w) 3 fPB fdB ["self", "how_many"] (spPB K CF CR)) (bB : Binds K fdB ["self", "how_many"] []) (mB : Meth K CR "pass_bytes" fPB)
    (GF : FnOk P w K mg base CX0 1 fFG fdG ["byte"] spFG) (bF : Binds K fdG ["byte"] []) (kF : PySem.W.keepIn K (.ref fFG) = true) (mF : mg "figure_of" = some (.ref fFG)) :
    FnOk P w K mg base (CXF P w) 4 f fd ["reader"] (spR1 K CF CR figAt) := by
  have GI : FnOk P w K mg base CX0 1 fFI fdI ["self", "kind", "place"] (spXI CF) := ok_FI FI T
  refine okX F scXF (fun vs H Q E h => ?_) (fun cdv A outer s H vs Q E hr h => ?_)
  · obtain ⟨r, a, p, bs, rfl, _⟩ := h
    rfl
  · obtain ⟨r, a, p, bs, rfl, ⟨dx, hr1⟩, hs, hp, q⟩ := h
    have hr2 : Room 2 _ := hr.mono (by decide)
    have hr1' : Room 1 _ := hr.mono (by decide)
    refine ⟨_, pss_cons (ps_set (i := 1) scXF.nd rfl (Or.inl rfl) (pe_call GF hr1' rfl mF kF bF .nil pass0 (pa_cons (pe_meth0 (pv 0) T.cR mS GS hr bS .nil passX) pa_nil)))
      (pss_cons (ps_if (pt_cmpR op_lt (pv 1) pe_int (nomark _)) (pss_one (ps_raise T.xc GI bI hr2 flies_cx rfl rfl T.mF (pa_cons (pgi T.e2 rfl) (pa_cons (pe_fld (pv 0) rfl) pa_nil)))) pss_nil)
      (pss_cons (ps_expr (pe_meth (pv 0) T.cR mB GB hr bB .nil passX (pa_cons pe_int pa_nil)))
      (pss_one (ps_ret (pv 1))))), ?_⟩
    refine ⟨_, rfl, r, dx, _, rfl, hr1, rf_no a p (by decide +kernel) (by decide +kernel), r, a, p, bs, rfl, ⟨dx, hr1⟩, hs, ?_⟩
    cases e : bs[p]? with
    | none =>
      obtain ⟨e1, e2⟩ := drop_end e hp
      rw [e1] at q
      have q : Err E CF (.int 1) (.int (p : Int)) := q
      rw [e2] at q
      exact q
    | some d =>
      rw [drop_at e] at q
      have hlt := (List.getElem?_eq_some_iff.mp e).1
      refine ⟨d, rfl, ?_⟩
      have q : Out E CF (match Sw.hexIn d with
        | none => Except.error ⟨2, p⟩
        | some x => .ok (x, 1) : Except Sw.Fault (Nat × Nat)) fun (x : Nat × Nat) => ∀ H' : Hp, RdAt CR H' r a (p + x.2) → Kp H H' r → p + x.2 ≤ bs.length → Q (.int (x.1 : Int)) H' := q
      unfold figI
      cases eh : Sw.hexIn d with
      | none =>
        rw [eh] at q
        have q : Err E CF (.int 2) (.int (p : Int)) := q
        exact ⟨_, rfl, _, _, rfl, rfl, _, rfl, iteT ⟨_, rfl, r, CR, dx, _, _, rfl, hr1, T.cR, T.nPl, rf_place a p, _, _, rfl, q⟩⟩
      | some x =>
        rw [eh] at q
        have q : ∀ H' : Hp, RdAt CR H' r a (p + 1) → Kp H H' r → p + 1 ≤ bs.length → Q (.int (x : Int)) H' := q
        refine ⟨_, rfl, _, _, rfl, rfl, _, rfl, ?_⟩
        rw [decide_eq_false (show ¬ ((x : Nat) : Int) < 0 by omega)]
        refine iteF ⟨_, rfl, r, dx, _, rfl, hr1, rf_no a p (by decide +kernel) (by decide +kernel), r, a, p, 1, bs, rfl, ⟨dx, hr1⟩, hs, hp, ?_⟩
        rw [if_neg (by omega)]
        intro H' rd kk
        exact ⟨_, rfl, q H' rd kk (by omega)⟩
theorem scX2 : FnScope ["reader", "high", "low"] ["reader"] (defScope sX2) := ⟨rfl, rfl, rfl, by decide +kernel, rfl, by decide +kernel, by decide +kernel⟩
theorem ok_X2 {f fXF : Addr} {fd fdF : FuncData} (F : Fun K "read_two_figures" "read_two_figures" sX2 f fd)
    (GF : FnOk P w K mg base (CXF P w) 4 fXF fdF ["reader"] (spR1 K CF CR figAt)) (bF : Binds K fdF ["reader"] []) (kF : PySem.W.keepIn K (.ref fXF) = true) (mF : mg "read_figure" = some (.ref fXF)) :
    FnOk P w K mg base (CXF P w) 5 f fd ["reader"] (spR1 K CF CR twoAt) := by
  refine okX F scX2 (fun vs H Q E h => ?_) (fun cdv A outer s H vs Q E hr h => ?_)
  · obtain ⟨r, a, p, bs, rfl, _⟩ := h
    rfl
  · obtain ⟨r, a, p, bs, rfl, hrd, hs, hp, q⟩ := h
    refine ⟨_, pss_cons (ps_set (i := 1) scX2.nd rfl (Or.inl rfl) (pe_call GF hr rfl mF kF bF .nil passX (pa_cons (pv 0) pa_nil)))
      (pss_cons (ps_set (i := 2) scX2.nd rfl (Or.inl rfl) (pe_call GF hr rfl mF kF bF .nil passX (pa_cons (pv 0) pa_nil)))
      (pss_one (ps_ret (pe_op op_add (pe_op op_mul (pv 1) pe_int) (pv 2))))), ?_⟩
    unfold twoAt at q
    refine ⟨_, rfl, r, a, p, bs, rfl, hrd, hs, hp, ?_⟩
    cases e1 : figAt p (bs.drop p) with
    | error e =>
      rw [e1] at q
      exact q
    | ok y =>
      obtain ⟨x, n⟩ := y
      rw [e1] at q
      dsimp only at q
      obtain ⟨hx, rfl, _⟩ := figAt_lt e1
      intro H1 rd1 k1 l1
      have hs1 : SqL K H1 a (bs.map bv) := by
        obtain ⟨dx, e⟩ := hrd
        exact sq_kp hs k1 e
      rw [List.drop_drop] at q
      refine ⟨_, rfl, r, a, p + 1, bs, rfl, rd1, hs1, l1, ?_⟩
      cases e2 : figAt (p + 1) (bs.drop (p + 1)) with
      | error e =>
        rw [e2] at q
        exact q
      | ok y =>
        obtain ⟨x2, n2⟩ := y
        rw [e2] at q
        dsimp only at q
        obtain ⟨hx2, rfl, _⟩ := figAt_lt e2
        intro H2 rd2 k2 l2
        have q : ∀ H' : Hp, RdAt CR H' r a (p + 2) → Kp H H' r → p + 2 ≤ bs.length → Q (.int ((16 * x + x2 : Nat) : Int)) H' := q
        have q := q H2 rd2 (k1.trans k2) l2
        rw [show ((16 * x + x2 : Nat) : Int) = (x : Int) * 16 + (x2 : Int) by omega] at q
        exact ⟨_, rfl, _, _, rfl, rfl, .inr ⟨by decide, by decide⟩, _, rfl, _, _, rfl, rfl, q⟩
end
end L2.J

set_option Elab.async false
set_option linter.all false
set_option maxRecDepth 100000
set_option maxHeartbeats 2000000
namespace L2.J
open PySem PySem.Spec PyProof.Rows L2.XC
/-! ### rows of figures -/
/-- a def that reads a row of bytes -/
def spR2 (K : PySem.W.Frag) (CF CR : Addr) (c : Nat) (g : Nat → List UInt8 → Except Sw.Fault (List UInt8 × Nat)) : Sp := fun vs H Q E => ∃ (r a : Addr) (p : Nat) (bs : List UInt8), vs = [.ref r] ∧ RdAt CR H r a p ∧ SqL K H a (bs.map bv) ∧ p ≤ bs.length ∧ bs.length ≤ 65536 ∧
  Out E CF (g p (bs.drop p)) fun (x : List UInt8 × Nat) => ∀ (t : Addr) (H' : Hp), RdAt CR H' r a (p + x.2) → Kp H H' r → H t = none → H' t = some (.lst (x.1.map bv)) → p + x.2 ≤ bs.length → x.1.length ≤ c * x.2 → Q (.ref t) H'
/-- the row of an identity, behind its sign -/
def idAt (p : Nat) (b : List UInt8) : Except Sw.Fault (List UInt8 × Nat) := match Sw.just p [35] b with
  | .error e => .error e
  | .ok _ => match Sw.figures64 32 (p + 1) (b.drop 1) with
    | .error e => .error e
    | .ok m => .ok (8 :: m, 65)
theorem fig64_two (k p : Nat) (b : List UInt8) : Sw.figures64 (k + 1) p b = match twoAt p b with
    | .error e => .error e
    | .ok (x, _) => (Sw.figures64 k (p + 2) (b.drop 2)).map fun (z : List UInt8) => UInt8.ofNat x :: z := by
  unfold twoAt figAt
  cases b with
  | nil => rfl
  | cons c r =>
    show (match Sw.hexIn c with
      | none => Except.error ⟨2, p⟩
      | some x => match r with
        | [] => Except.error ⟨1, p + 1⟩
        | d :: s => match Sw.hexIn d with
          | none => Except.error ⟨2, p + 1⟩
          | some y => (Sw.figures64 k (p + 2) s).map fun (z : List UInt8) => UInt8.ofNat (16 * x + y) :: z : Except Sw.Fault (List UInt8)) = _
    cases e1 : Sw.hexIn c with
    | none => simp [e1]
    | some x =>
      cases r with
      | nil => simp [e1]
      | cons d s =>
        cases e2 : Sw.hexIn d with
        | none => simp [e1, e2]
        | some y => simp [e1, e2]
theorem twoAt_lt {p : Nat} {b : List UInt8} {x n : Nat} (h : twoAt p b = .ok (x, n)) : x < 256 ∧ n = 2 ∧ 2 ≤ b.length := by
  unfold twoAt at h
  cases e1 : figAt p b with
  | error e => rw [e1] at h; cases h
  | ok y =>
    obtain ⟨u, m⟩ := y
    rw [e1] at h
    dsimp only at h
    obtain ⟨h1, _, h2⟩ := figAt_lt e1
    cases e2 : figAt (p + 1) (b.drop 1) with
    | error e => rw [e2] at h; cases h
    | ok y =>
      obtain ⟨v, m2⟩ := y
      rw [e2] at h
      cases h
      obtain ⟨h3, _, h4⟩ := figAt_lt e2
      rw [List.length_drop] at h4
      exact ⟨by omega, rfl, by omega⟩
section
variable {P : Program} {w : World} {K : PySem.W.Frag} {mg : Str → Option Value} {base : Heap} {CF CR fFI : Addr}
theorem scXI : FnScope ["reader", "row", "turn"] ["reader"] (defScope sXI) := ⟨rfl, rfl, rfl, by decide +kernel, rfl, by decide +kernel, by decide +kernel⟩
theorem ok_XI {f fRG fX2 : Addr} {fd fdG fd2 : FuncData} (F : Fun K "read_identity" "read_identity" sXI f fd) (T : TxR K mg CF CR fFI) (ks : GI mg "ID_SIGN" 35) (k8 : GI mg "IDENTITY" 8) (kl : GI mg "IDENTITY_LENGTH" 32)
    (GG : FnOk P w K mg base (CXF P w) 4 fRG fdG ["self", "sign"] (spRG K CF CR)) (bG : Binds K fdG ["self", "sign"] []) (mG : Meth K CR "read_sign" fRG)
    (G2 : FnOk P w K mg base (CXF P w) 5 fX2 fd2 ["reader"] (spR1 K CF CR twoAt)) (b2 : Binds K fd2 ["reader"] []) (kk2 : PySem.W.keepIn K (.ref fX2) = true) (m2 : mg "read_two_figures" = some (.ref fX2)) :
    FnOk P w K mg base (CXF P w) 6 f fd ["reader"] (spR2 K CF CR 1 idAt) := by
  refine okX F scXI (fun vs H Q E h => ?_) (fun cdv A outer s H vs Q E hr h => ?_)
  · obtain ⟨r, a, p, bs, rfl, _⟩ := h
    rfl
  · obtain ⟨r, a, p, bs, rfl, ⟨dx, hr1⟩, hs, hp, hz, q⟩ := h
    have hr4 : Room 4 _ := hr.mono (by decide)
    refine ⟨_, pss_cons (ps_expr (pe_meth (pv 0) T.cR mG GG hr4 bG .nil passX (pa_cons (pgi ks rfl) pa_nil)))
      (pss_cons (ps_set (i := 1) scXI.nd rfl (Or.inl rfl) (pe_lst (pa_cons (pgi k8 rfl) pa_nil)))
      (pss_cons (ps_for PassesOwn.leaving rfl (pi_range1 rfl T.rng (pa_cons (pgi kl rfl) pa_nil)) (pg_name (i := 2) scXI.nd rfl (Or.inl rfl))
        (pss_one (ps_expr (pe_bm PySem.F.plainAttrs_list PySem.F.slot_list_append PySem.F.type_list_append mt_append (pv 1) (pa_cons (pe_call G2 hr rfl m2 kk2 b2 .nil passX (pa_cons (pv 0) pa_nil)) pa_nil)))))
      (pss_one (ps_ret (pv 1))))), ?_⟩
    unfold idAt at q
    refine ⟨_, rfl, r, dx, _, rfl, hr1, rf_no a p (by decide +kernel) (by decide +kernel), r, a, p, bs, 35, rfl, ⟨dx, hr1⟩, hs, hp, ?_⟩
    cases e1 : Sw.just p [35] (bs.drop p) with
    | error e =>
      rw [e1] at q
      exact q
    | ok u =>
      rw [e1] at q
      dsimp only at q
      intro H1 rd1 k1
      have hp1 : p + 1 ≤ bs.length := by
        cases eb : bs[p]? with
        | none =>
          rw [(drop_end eb hp).1] at e1
          cases e1
        | some d => exact (List.getElem?_eq_some_iff.mp eb).1
      have hs1 : SqL K H1 a (bs.map bv) := sq_kp hs k1 hr1
      rw [List.drop_drop] at q
      refine ⟨(by show 1 ≤ sizeLine; decide), fun x hx => ?_⟩
      have hxr : x ≠ r := fun z => by
        obtain ⟨d1, e⟩ := rd1
        rw [z, e] at hx
        cases hx
      have k2 : Same H1 (upd H1 x (.lst [V.int 8])) := fun b o e => (upd_ne (ne_of_none e hx)).trans e
      have hxH : H x = none := by
        cases e : H x with
        | none => rfl
        | some o =>
          have := k1 _ _ e hxr
          rw [hx] at this
          cases this
      have rd2 : RdAt CR (upd H1 x (.lst [V.int 8])) r a (p + 1) := let ⟨d1, e⟩ := rd1; ⟨d1, k2 _ _ e⟩
      refine ⟨32, rfl, by decide, by decide, for_range (lo := 0) (n := 32) (fun i σ G => ∃ (v2 : Option V) (acc : List UInt8), σ = [some (.ref r), some (.ref x), v2] ∧ RdAt CR G r a (p + 1 + 2 * i) ∧ Kp H1 G r ∧ G x = some (.lst (((8 : UInt8) :: acc).map bv)) ∧ acc.length = i ∧ p + 1 + 2 * i ≤ bs.length ∧
        Sw.figures64 32 (p + 1) (bs.drop (p + 1)) = (Sw.figures64 (32 - i) (p + 1 + 2 * i) (bs.drop (p + 1 + 2 * i))).map fun z => acc ++ z) ⟨none, [], rfl, rd2, fun b o e _ => k2 b o e, upd_same, rfl, hp1, ?_⟩ ?_ ?_⟩
      · show _ = (Sw.figures64 32 (p + 1) (bs.drop (p + 1))).map fun z => z
        cases Sw.figures64 32 (p + 1) (bs.drop (p + 1)) <;> rfl
      · rintro i σ G hi ⟨v2, acc, rfl, ⟨dg, hg⟩, kG, hGx, hal, hb, ef⟩
        have hsG : SqL K G a (bs.map bv) := by
          obtain ⟨d1, e⟩ := rd1
          exact sq_kp hs1 kG e
        refine ⟨_, rfl, .inl ⟨rfl, _, SqL.of hGx⟩, _, rfl, r, a, p + 1 + 2 * i, bs, rfl, ⟨dg, hg⟩, hsG, hb, ?_⟩
        rw [show 32 - i = (31 - i) + 1 by omega, fig64_two (31 - i)] at ef
        rw [ef] at q
        cases e2 : twoAt (p + 1 + 2 * i) (bs.drop (p + 1 + 2 * i)) with
        | error e =>
          rw [e2] at q
          exact q
        | ok y =>
          obtain ⟨u, n⟩ := y
          rw [e2] at q ef
          obtain ⟨hu, rfl, hl2⟩ := twoAt_lt e2
          intro G' rd' k' l'
          have hx' : G' x = some (.lst (((8 : UInt8) :: acc).map bv)) := k' _ _ hGx hxr
          refine ⟨x, _, _, rfl, rfl, hx', ?_, some (.int (0 + i)), acc ++ [UInt8.ofNat u], rfl, ?_, ?_, ?_, ?_, ?_, ?_⟩
          · rw [List.length_map, List.length_cons, hal, sizeLine_eq]
            omega
          · obtain ⟨d', e'⟩ := rd'
            refine ⟨d', ?_⟩
            rw [upd_ne (Ne.symm hxr), e']
            rfl
          · intro b o e n
            have hbx : b ≠ x := fun z => by rw [z, hx] at e; cases e
            rw [upd_ne hbx]
            exact k' _ _ (kG _ _ e n) n
          · rw [upd_same]
            show some (HO.lst (((8 : UInt8) :: acc).map bv ++ [V.int (u : Int)])) = some (HO.lst (((8 : UInt8) :: (acc ++ [UInt8.ofNat u])).map bv))
            rw [← List.cons_append, List.map_append]
            show _ = some (HO.lst (((8 : UInt8) :: acc).map bv ++ [bv (UInt8.ofNat u)]))
            rw [bv_of hu]
          · rw [List.length_append, hal]
            rfl
          · omega
          · rw [ef, List.drop_drop]
            rw [show p + 1 + 2 * (i + 1) = p + 1 + 2 * i + 2 by omega, show 32 - (i + 1) = 31 - i by omega]
            show Except.map _ (Except.map _ (Sw.figures64 (31 - i) (p + 1 + 2 * i + 2) (bs.drop (p + 1 + 2 * i + 2)))) = _
            cases Sw.figures64 (31 - i) (p + 1 + 2 * i + 2) (bs.drop (p + 1 + 2 * i + 2)) with
            | error e => rfl
            | ok z =>
              show Except.ok (acc ++ (UInt8.ofNat u :: z)) = Except.ok ((acc ++ [UInt8.ofNat u]) ++ z)
              rw [List.append_assoc]
              rfl
      · rintro σ G ⟨v2, acc, rfl, rd', kG, hGx, hal, hb, ef⟩
        have e0 : ∀ (n : Nat) (l : List UInt8), Sw.figures64 0 n l = .ok [] := fun n l => by unfold Sw.figures64; rfl
        rw [show 32 - 32 = 0 from rfl, e0] at ef
        rw [ef] at q
        have q : ∀ (t : Addr) (H' : Hp), RdAt CR H' r a (p + 65) → Kp H H' r → H t = none → H' t = some (.lst (((8 : UInt8) :: (acc ++ [])).map bv)) → p + 65 ≤ bs.length → ((8 : UInt8) :: (acc ++ [])).length ≤ 1 * 65 → Q (.ref t) H' := q
        rw [List.append_nil] at q
        exact ⟨_, rfl, q x G rd' (k1.trans kG) hxH hGx hb (by rw [List.length_cons, hal]; omega)⟩
end
end L2.J

set_option Elab.async false
set_option linter.all false
set_option maxRecDepth 100000
set_option maxHeartbeats 2000000
namespace L2.J
open PySem PySem.Spec PyProof.Rows L2.XC
/-! ### bytes in figures -/
def pairedAt (p : Nat) (b : List UInt8) : Except Sw.Fault (List UInt8 × Nat) := match Sw.just p [120, 34] b with
  | .error e => .error e
  | .ok _ => match Sw.pairsAt (b.length + 1) (p + 2) (b.drop 2) with
    | .error e => .error e
    | .ok (m, n) => .ok (m, n + 2)
theorem pairs_two {f p : Nat} {c : UInt8} {r : List UInt8} (h : c ≠ 34) : Sw.pairsAt (f + 1) p (c :: r) = match twoAt p (c :: r) with
    | .error e => .error e
    | .ok (x, _) => (Sw.pairsAt f (p + 2) ((c :: r).drop 2)).map fun (z : List UInt8 × Nat) => (UInt8.ofNat x :: z.1, z.2 + 2) := by
  unfold twoAt figAt
  show (if c = 34 then Except.ok ([], 1) else match Sw.hexIn c with
    | none => Except.error ⟨2, p⟩
    | some x => match r with
      | [] => Except.error ⟨1, p + 1⟩
      | d :: s => match Sw.hexIn d with
        | none => Except.error ⟨2, p + 1⟩
        | some y => (Sw.pairsAt f (p + 2) s).map fun (z : List UInt8 × Nat) => (UInt8.ofNat (16 * x + y) :: z.1, z.2 + 2) : Except Sw.Fault (List UInt8 × Nat)) = _
  rw [if_neg h]
  cases e1 : Sw.hexIn c with
  | none => simp [e1]
  | some x =>
    cases r with
    | nil => simp [e1]
    | cons d s =>
      cases e2 : Sw.hexIn d with
      | none => simp [e1, e2]
      | some y => simp [e1, e2]
section
variable {P : Program} {w : World} {K : PySem.W.Frag} {mg : Str → Option Value} {base : Heap} {CF CR fFI : Addr}
theorem scXG : FnScope ["reader", "row"] ["reader"] (defScope sXG) := ⟨rfl, rfl, rfl, by decide +kernel, rfl, by decide +kernel, by decide +kernel⟩
theorem ok_XG {f fSB fRG fX2 fXW : Addr} {fd fdS fdG fd2 fdW : FuncData} (F : Fun K "read_figured" "read_figured" sXG f fd) (T : TxR K mg CF CR fFI) (kq : GI mg "QUOTE" 34)
    (GS : FnOk P w K mg base (CXF P w) 3 fSB fdS ["self"] (spSB K CF CR)) (bS : Binds K fdS ["self"] []) (mS : Meth K CR "see_byte" fSB)
    (GG : FnOk P w K mg base (CXF P w) 4 fRG fdG ["self", "sign"] (spRG K CF CR)) (bG : Binds K fdG ["self", "sign"] []) (mG : Meth K CR "read_sign" fRG)
    (GW : FnOk P w K mg base (CXF P w) 5 fXW fdW ["reader", "words"] (spXW K CF CR)) (bW : Binds K fdW ["reader", "words"] []) (kW : PySem.W.keepIn K (.ref fXW) = true) (mW : mg "read_word" = some (.ref fXW))
    (G2 : FnOk P w K mg base (CXF P w) 5 fX2 fd2 ["reader"] (spR1 K CF CR twoAt)) (b2 : Binds K fd2 ["reader"] []) (kk2 : PySem.W.keepIn K (.ref fX2) = true) (m2 : mg "read_two_figures" = some (.ref fX2)) :
    FnOk P w K mg base (CXF P w) 6 f fd ["reader"] (spR2 K CF CR 1 pairedAt) := by
  refine okX F scXG (fun vs H Q E h => ?_) (fun cdv A outer s H vs Q E hr h => ?_)
  · obtain ⟨r, a, p, bs, rfl, _⟩ := h
    rfl
  · obtain ⟨r, a, p, bs, rfl, ⟨dx, hr1⟩, hs, hp, hz, q⟩ := h
    have hr4 : Room 4 _ := hr.mono (by decide)
    have hr3 : Room 3 _ := hr.mono (by decide)
    refine ⟨_, pss_cons (ps_expr (pe_call GW hr rfl mW kW bW .nil passX (pa_cons (pv 0) (pa_cons pe_str pa_nil))))
      (pss_cons (ps_set (i := 1) scXG.nd rfl (Or.inl rfl) (pe_lst pa_nil))
      (pss_cons (ps_while PassesOwn.leaving (pt_cmpR op_ne (pe_meth0 (pv 0) T.cR mS GS hr3 bS .nil passX) (pgi kq rfl) (nomark _))
        (pss_one (ps_expr (pe_bm PySem.F.plainAttrs_list PySem.F.slot_list_append PySem.F.type_list_append mt_append (pv 1) (pa_cons (pe_call G2 hr rfl m2 kk2 b2 .nil passX (pa_cons (pv 0) pa_nil)) pa_nil)))))
      (pss_cons (ps_expr (pe_meth (pv 0) T.cR mG GG hr4 bG .nil passX (pa_cons (pgi kq rfl) pa_nil)))
      (pss_one (ps_ret (pv 1)))))), ?_⟩
    have es : Str.ofString "x\"" = sB [120, 34] := by rw [Str.ofString_eq_toList]; rfl
    unfold pairedAt at q
    refine ⟨_, rfl, r, a, p, bs, [120, 34], congrArg (fun t => [V.ref r, V.str t]) es, (by decide), ⟨dx, hr1⟩, hs, hp, ?_⟩
    cases e1 : Sw.just p [120, 34] (bs.drop p) with
    | error e =>
      rw [e1] at q
      exact q
    | ok u =>
      rw [e1] at q
      dsimp only at q
      intro H1 rd1 k1 hp2
      have hp2 : p + 2 ≤ bs.length := hp2
      have rd1 : RdAt CR H1 r a (p + 2) := rd1
      have hs1 : SqL K H1 a (bs.map bv) := sq_kp hs k1 hr1
      rw [List.drop_drop] at q
      refine ⟨(by show 0 ≤ sizeLine; decide), fun x hx => ?_⟩
      have hxr : x ≠ r := fun z => by
        obtain ⟨d1, e⟩ := rd1
        rw [z, e] at hx
        cases hx
      have k2 : Same H1 (upd H1 x (.lst [])) := fun b o e => (upd_ne (ne_of_none e hx)).trans e
      have hxH : H x = none := by
        cases e : H x with
        | none => rfl
        | some o =>
          have := k1 _ _ e hxr
          rw [hx] at this
          cases this
      have rd2 : RdAt CR (upd H1 x (.lst [])) r a (p + 2) := let ⟨d1, e⟩ := rd1; ⟨d1, k2 _ _ e⟩
      generalize hF : Sw.pairsAt ((bs.drop p).length + 1) (p + 2) (bs.drop (p + 2)) = res at q
      refine ⟨fun m σ G => ∃ (acc : List UInt8) (n f : Nat), σ = [some (.ref r), some (.ref x)] ∧ RdAt CR G r a n ∧ Kp H1 G r ∧ G x = some (.lst (acc.map bv)) ∧ acc.length + (p + 2) ≤ n ∧ p + 2 ≤ n ∧ n ≤ bs.length ∧ m = bs.length - n ∧ bs.length - n + 1 ≤ f ∧
        res = (Sw.pairsAt f n (bs.drop n)).map fun z => (acc ++ z.1, z.2 + (n - (p + 2))), ⟨bs.length - (p + 2), [], p + 2, (bs.drop p).length + 1, rfl, rd2, fun b o e _ => k2 b o e, upd_same, by show 0 + (p + 2) ≤ p + 2; omega, Nat.le_refl _, hp2, rfl, ?_, ?_⟩, ?_⟩
      · rw [List.length_drop]
        omega
      · rw [hF, Nat.sub_self]
        cases res <;> rfl
      rintro m σ G ⟨acc, n, f, rfl, ⟨dg, hg⟩, kG, hGx, hal, hn1, hn2, hm, hf, er⟩
      have hsG : SqL K G a (bs.map bv) := by
        obtain ⟨d1, e⟩ := rd1
        exact sq_kp hs1 kG e
      obtain ⟨f, rfl⟩ : ∃ k, f = k + 1 := ⟨f - 1, by omega⟩
      refine ⟨_, rfl, r, dg, _, rfl, hg, rf_no a n (by decide +kernel) (by decide +kernel), r, a, n, bs, rfl, ⟨dg, hg⟩, hsG, ?_⟩
      cases eb : bs[n]? with
      | none =>
        obtain ⟨d1, d2⟩ := drop_end eb hn2
        rw [d1] at er
        have er : res = .error ⟨1, n⟩ := er
        rw [er] at q
        have q : Err E CF (.int 1) (.int (n : Int)) := q
        rw [d2] at q
        exact q
      | some c =>
        have hlt := (List.getElem?_eq_some_iff.mp eb).1
        have ed := drop_at eb
        refine ⟨rfl, _, rfl, ?_⟩
        rw [show (V.int 34) = bv 34 from rfl, bv_inj]
        by_cases hc : c = 34
        · rw [decide_eq_true hc]
          subst hc
          refine iteF ⟨_, rfl, r, dg, _, rfl, hg, rf_no a n (by decide +kernel) (by decide +kernel), r, a, n, bs, 34, rfl, ⟨dg, hg⟩, hsG, hn2, ?_⟩
          rw [ed, just_cons]
          have e0 : ∀ (n : Nat) (l : List UInt8), Sw.just n [] l = .ok () := fun n l => by unfold Sw.just; rfl
          rw [e0]
          intro G' rd' k'
          rw [ed] at er
          have er : res = .ok (acc ++ [], 1 + (n - (p + 2))) := er
          rw [er, List.append_nil] at q
          have q : ∀ (t : Addr) (H' : Hp), RdAt CR H' r a (p + (1 + (n - (p + 2)) + 2)) → Kp H H' r → H t = none → H' t = some (.lst (acc.map bv)) → p + (1 + (n - (p + 2)) + 2) ≤ bs.length → acc.length ≤ 1 * (1 + (n - (p + 2)) + 2) → Q (.ref t) H' := q
          rw [show p + (1 + (n - (p + 2)) + 2) = n + 1 by omega] at q
          exact ⟨_, rfl, q x G' rd' ((k1.trans kG).trans k') hxH (k' _ _ hGx hxr) hlt (by omega)⟩
        · rw [decide_eq_false hc]
          refine iteT ⟨_, fun σ' G' h => h, ?_⟩
          refine ⟨_, rfl, .inl ⟨rfl, _, SqL.of hGx⟩, _, rfl, r, a, n, bs, rfl, ⟨dg, hg⟩, hsG, hn2, ?_⟩
          rw [ed, pairs_two hc, ← ed] at er
          cases e2 : twoAt n (bs.drop n) with
          | error e =>
            rw [e2] at er
            have er : res = .error e := er
            rw [er] at q
            exact q
          | ok y =>
            obtain ⟨u, k⟩ := y
            rw [e2] at er
            obtain ⟨hu, rfl, hl2⟩ := twoAt_lt e2
            rw [List.length_drop] at hl2
            intro G' rd' k' l'
            have hx' : G' x = some (.lst (acc.map bv)) := k' _ _ hGx hxr
            refine ⟨x, _, _, rfl, rfl, hx', ?_, bs.length - (n + 2), by omega, acc ++ [UInt8.ofNat u], n + 2, f, rfl, ?_, ?_, ?_, ?_, by omega, l', rfl, by omega, ?_⟩
            · rw [List.length_map, sizeLine_eq]
              omega
            · obtain ⟨d', e'⟩ := rd'
              refine ⟨d', ?_⟩
              rw [upd_ne (Ne.symm hxr), e']
            · intro b o e n
              have hbx : b ≠ x := fun z => by rw [z, hx] at e; cases e
              rw [upd_ne hbx]
              exact k' _ _ (kG _ _ e n) n
            · rw [upd_same]
              show some (HO.lst (acc.map bv ++ [V.int (u : Int)])) = some (HO.lst ((acc ++ [UInt8.ofNat u]).map bv))
              rw [List.map_append]
              show _ = some (HO.lst (acc.map bv ++ [bv (UInt8.ofNat u)]))
              rw [bv_of hu]
            · rw [List.length_append]
              show acc.length + 1 + (p + 2) ≤ _
              omega
            · rw [List.drop_drop] at er
              rw [er]
              show Except.map _ (Except.map _ (Sw.pairsAt f (n + 2) (bs.drop (n + 2)))) = _
              cases Sw.pairsAt f (n + 2) (bs.drop (n + 2)) with
              | error e => rfl
              | ok z =>
                show Except.ok (acc ++ (UInt8.ofNat u :: z.1), z.2 + 2 + (n - (p + 2))) = Except.ok ((acc ++ [UInt8.ofNat u]) ++ z.1, z.2 + (n + 2 - (p + 2)))
                rw [List.append_assoc, show z.2 + 2 + (n - (p + 2)) = z.2 + (n + 2 - (p + 2)) by omega]
                rfl
end
end L2.J

set_option Elab.async false
set_option linter.all false
set_option maxRecDepth 100000
set_option maxHeartbeats 2000000
namespace L2.J
open PySem PySem.Spec PyProof.Rows L2.XC
/-! ### signs told by their numbers -/
def numN (c : Nat) : Bool := decide (c < 32 ∧ c ≠ 10) || decide (c = 127)
def spNN : Sp := fun vs H Q _ => ∃ c : Nat, vs = [.int (c : Int)] ∧ Q (.bl (numN c)) H
def ontoAt (s p : Nat) (b : List UInt8) : Except Sw.Fault (Nat × Nat) := match figAt p b with
  | .error e => .error e
  | .ok (x, _) => if numN (16 * s + x) = true then .ok (16 * s + x, 1) else .error ⟨2, p⟩
def spXO (K : PySem.W.Frag) (CF CR : Addr) : Sp := fun vs H Q E => ∃ (r a : Addr) (p s : Nat) (bs : List UInt8), vs = [.ref r, .int (s : Int)] ∧ s < 65536 ∧ RdAt CR H r a p ∧ SqL K H a (bs.map bv) ∧ p ≤ bs.length ∧
  Out E CF (ontoAt s p (bs.drop p)) fun (x : Nat × Nat) => ∀ H' : Hp, RdAt CR H' r a (p + x.2) → Kp H H' r → p + x.2 ≤ bs.length → Q (.int (x.1 : Int)) H'
section
variable {P : Program} {w : World} {K : PySem.W.Frag} {mg : Str → Option Value} {base : Heap} {CF CR fFI : Addr}
theorem ok_IN2 {f : Addr} {fd : FuncData} (F : Fun K "is_numbered" "is_numbered" sIU f fd) (T : TxS mg) : FnOk P w K mg base CX0 1 f fd ["scalar"] spNN := by
  refine F.ok scIU (fun vs H Q E h => ?_) (fun cdv A outer s H vs Q E hr h => ?_)
  · obtain ⟨c, rfl, _⟩ := h
    rfl
  · obtain ⟨c, rfl, q⟩ := h
    refine ⟨_, pss_one (ps_ret (pe_or (pe_and (pe_cmpR op_lt (pv 0) (pgi T.bl rfl) (nomark _)) (pe_one (pe_cmpR op_ne (pv 0) (pgi T.lf rfl) (nomark _)))) (pe_one (pe_cmpR op_eq (pv 0) (pgi T.de rfl) (nomark _))))), ?_⟩
    unfold numN at q
    refine ⟨_, rfl, _, _, rfl, rfl, _, rfl, ?_⟩
    have last : ∀ b : Bool, b = false → (decide (c < 32 ∧ c ≠ 10)) = b → Q (V.bl (decide (V.int (c : Int) = V.int 127))) H := fun b hb e => by
      rw [e, hb, Bool.false_or] at q
      show Q (V.bl (decide (V.int (c : Int) = V.int 127))) H
      rw [dint, show decide ((c : Int) = 127) = decide (c = 127) from decide_eq_decide.mpr (by omega)]
      exact q
    by_cases c1 : c < 32
    · rw [decide_eq_true (show (c : Int) < 32 by omega)]
      refine iteT ⟨_, rfl, rfl, ?_⟩
      show ∃ c' : Bool, V.bl (!decide (V.int (c : Int) = V.int 10)) = .bl c' ∧ _
      rw [dint]
      by_cases c2 : c = 10
      · rw [decide_eq_true (show (c : Int) = 10 by omega)]
        exact ⟨_, rfl, iteF ⟨_, rfl, rfl, last false rfl (decide_eq_false (fun z => z.2 c2))⟩⟩
      · rw [decide_eq_false (show ¬ (c : Int) = 10 by omega)]
        rw [decide_eq_true (show c < 32 ∧ c ≠ 10 from ⟨c1, c2⟩), Bool.true_or] at q
        exact ⟨_, rfl, iteT q⟩
    · rw [decide_eq_false (show ¬ (c : Int) < 32 by omega)]
      refine iteF ?_
      exact ⟨_, rfl, iteF ⟨_, rfl, rfl, last false rfl (decide_eq_false (fun z => c1 z.1))⟩⟩
theorem scXO : FnScope ["reader", "scalar", "place", "longer"] ["reader", "scalar"] (defScope sXO) := ⟨rfl, rfl, rfl, by decide +kernel, rfl, by decide +kernel, by decide +kernel⟩
theorem ok_XO {f fXF fIU : Addr} {fd fdF fdU fdI : FuncData} (F : Fun K "read_figure_onto" "read_figure_onto" sXO f fd) (T : TxR K mg CF CR fFI) (FI : Fun K "__init__" "Fault.__init__" sFI fFI fdI) (bI : Binds K fdI ["self", "kind", "place"] [])
    (GF : FnOk P w K mg base (CXF P w) 4 fXF fdF ["reader"] (spR1 K CF CR figAt)) (bF : Binds K fdF ["reader"] []) (kF : PySem.W.keepIn K (.ref fXF) = true) (mF : mg "read_figure" = some (.ref fXF))
    (GU : FnOk P w K mg base CX0 1 fIU fdU ["scalar"] spNN) (bU : Binds K fdU ["scalar"] []) (kU : PySem.W.keepIn K (.ref fIU) = true) (mU : mg "is_numbered" = some (.ref fIU)) :
    FnOk P w K mg base (CXF P w) 5 f fd ["reader", "scalar"] (spXO K CF CR) := by
  have GI : FnOk P w K mg base CX0 1 fFI fdI ["self", "kind", "place"] (spXI CF) := ok_FI FI T
  refine okX F scXO (fun vs H Q E h => ?_) (fun cdv A outer s H vs Q E hr h => ?_)
  · obtain ⟨r, a, p, s, bs, rfl, _⟩ := h
    rfl
  · obtain ⟨r, a, p, n, bs, rfl, hn, ⟨dx, hr1⟩, hs, hp, q⟩ := h
    have hr2 : Room 2 _ := hr.mono (by decide)
    have hr1' : Room 1 _ := hr.mono (by decide)
    refine ⟨_, pss_cons (ps_set (i := 2) scXO.nd rfl (Or.inl rfl) (pe_fld (pv 0) rfl))
      (pss_cons (ps_set (i := 3) scXO.nd rfl (Or.inl rfl) (pe_op op_add (pe_op op_mul (pv 1) pe_int) (pe_call GF hr rfl mF kF bF .nil passX (pa_cons (pv 0) pa_nil))))
      (pss_cons (ps_if (pt_not (pt_val (pe_call GU hr1' rfl mU kU bU .nil pass0 (pa_cons (pv 3) pa_nil)))) (pss_one (ps_raise T.xc GI bI hr2 flies_cx rfl rfl T.mF (pa_cons (pgi T.e2 rfl) (pa_cons (pv 2) pa_nil)))) pss_nil)
      (pss_one (ps_ret (pv 3))))), ?_⟩
    unfold ontoAt at q
    refine ⟨_, rfl, r, CR, dx, _, _, rfl, hr1, T.cR, T.nPl, rf_place a p, _, rfl, _, _, rfl, rfl, .inr ⟨by decide, by decide⟩, _, rfl, r, a, p, bs, rfl, ⟨dx, hr1⟩, hs, hp, ?_⟩
    cases e1 : figAt p (bs.drop p) with
    | error e =>
      rw [e1] at q
      exact q
    | ok y =>
      obtain ⟨x, k⟩ := y
      rw [e1] at q
      dsimp only at q
      obtain ⟨hx, rfl, _⟩ := figAt_lt e1
      intro H1 rd1 k1 l1
      have ev : (n : Int) * 16 + (x : Int) = ((16 * n + x : Nat) : Int) := by omega
      refine ⟨_, _, rfl, rfl, _, rfl, 16 * n + x, congrArg (fun t => [V.int t]) ev, _, rfl, ?_⟩
      by_cases c : numN (16 * n + x) = true
      · rw [if_pos c] at q
        rw [c]
        refine iteF ⟨_, rfl, ?_⟩
        have q := q H1 rd1 k1 l1
        show Q (.int ((n : Int) * 16 + (x : Int))) H1
        rw [ev]
        exact q
      · rw [if_neg c] at q
        have c : numN (16 * n + x) = false := by
          cases e : numN (16 * n + x) with
          | true => exact absurd e c
          | false => rfl
        rw [c]
        exact iteT ⟨_, rfl, _, _, rfl, q⟩
end
end L2.J

set_option Elab.async false
set_option linter.all false
set_option maxRecDepth 100000
set_option maxHeartbeats 2000000
namespace L2.J
open PySem PySem.Spec PyProof.Rows L2.XC
/-! ### behind a backslash -/
def restU : Nat → Nat → Nat → Nat → List UInt8 → Except Sw.Fault (Nat × Nat)
  | 0, _, _, n, _ => .error ⟨1, n⟩
  | _ + 1, _, _, n, [] => .error ⟨1, n⟩
  | f + 1, s, k, n, c :: r => if c = 125 then .ok (s, k + 1) else if s = 0 then .error ⟨2, n⟩ else match ontoAt s n (c :: r) with
    | .error e => .error e
    | .ok (x, _) => restU f x (k + 1) (n + 1) r
def numberedAt (p : Nat) (b : List UInt8) : Except Sw.Fault (Nat × Nat) := match Sw.just p [117, 123] b with
  | .error e => .error e
  | .ok _ => match ontoAt 0 (p + 2) (b.drop 2) with
    | .error e => .error e
    | .ok (a, _) => restU ((b.drop 3).length + 1) a 3 (p + 3) (b.drop 3)
def behindAt (p : Nat) (b : List UInt8) : Except Sw.Fault (Nat × Nat) := match Sw.just p [92] b with
  | .error e => .error e
  | .ok _ => match Sw.escapeAt (p + 1) (b.drop 1) with
    | .error e => .error e
    | .ok (x, n) => .ok (x, n + 1)
theorem numN_lt {n : Nat} (h : numN n = true) : n < 128 := by
  unfold numN at h
  rw [Bool.or_eq_true, decide_eq_true_eq, decide_eq_true_eq] at h
  omega
theorem onto_lt {s p : Nat} {b : List UInt8} {x n : Nat} (h : ontoAt s p b = .ok (x, n)) : x < 128 ∧ n = 1 ∧ 1 ≤ b.length := by
  unfold ontoAt at h
  cases e : figAt p b with
  | error y => rw [e] at h; cases h
  | ok y =>
    obtain ⟨u, m⟩ := y
    rw [e] at h
    dsimp only at h
    obtain ⟨_, _, hl⟩ := figAt_lt e
    by_cases c : numN (16 * s + u) = true
    · rw [if_pos c] at h
      cases h
      exact ⟨numN_lt c, rfl, hl⟩
    · rw [if_neg c] at h
      cases h
theorem hexIn_lt {c : UInt8} {x : Nat} (h : Sw.hexIn c = some x) : x < 16 := by
  have e : figAt 0 [c] = .ok (x, 1) := by
    show (match Sw.hexIn c with
      | none => Except.error ⟨2, 0⟩
      | some x => .ok (x, 1) : Except Sw.Fault (Nat × Nat)) = _
    rw [h]
  exact (figAt_lt e).1
theorem onto_none {s n : Nat} {c : UInt8} {r : List UInt8} (h : Sw.hexIn c = none) : ontoAt s n (c :: r) = .error ⟨2, n⟩ := by
  unfold ontoAt figAt
  simp [h]
theorem onto_some {s n x : Nat} {c : UInt8} {r : List UInt8} (h : Sw.hexIn c = some x) : ontoAt s n (c :: r) = if numN (16 * s + x) = true then .ok (16 * s + x, 1) else .error ⟨2, n⟩ := by
  unfold ontoAt figAt
  simp [h]
theorem numN_yes {n : Nat} (h : (n < 32 ∧ n ≠ 10) ∨ n = 127) : numN n = true := by
  unfold numN
  rw [Bool.or_eq_true, decide_eq_true_eq, decide_eq_true_eq]
  exact h
theorem numN_no {n : Nat} (h : ¬ ((n < 32 ∧ n ≠ 10) ∨ n = 127)) : ¬ numN n = true := by
  unfold numN
  rw [Bool.or_eq_true, decide_eq_true_eq, decide_eq_true_eq]
  exact h
theorem rest_two {s n f k : Nat} (hs : 16 ≤ s) (r : List UInt8) : restU (f + 1) s k n r = match r with
    | [] => .error ⟨1, n⟩
    | z :: _ => if z = 125 then .ok (s, k + 1) else .error ⟨2, n⟩ := by
  cases r with
  | nil => rfl
  | cons z r =>
    show (if z = 125 then Except.ok (s, k + 1) else if s = 0 then .error ⟨2, n⟩ else match ontoAt s n (z :: r) with
      | .error e => .error e
      | .ok (x, _) => restU f x (k + 1) (n + 1) r : Except Sw.Fault (Nat × Nat)) = _
    by_cases h : z = 125
    · rw [if_pos h]
      simp [h]
    · rw [if_neg h, if_neg (by omega)]
      simp only [h, if_false]
      cases e : Sw.hexIn z with
      | none => rw [onto_none e]
      | some x => rw [onto_some e, if_neg (numN_no (by omega))]
theorem numbered_esc {p : Nat} {r : List UInt8} : numberedAt p (117 :: r) = Sw.escapeAt p (117 :: r) := by
  unfold numberedAt
  show _ = (match r with
    | [] => .error ⟨1, p + 1⟩
    | o :: s => if o ≠ 123 then .error ⟨2, p + 1⟩ else match s with
      | [] => .error ⟨1, p + 2⟩
      | x :: t => match Sw.hexIn x with
        | none => .error ⟨2, p + 2⟩
        | some a => if a = 10 then .error ⟨2, p + 2⟩ else match t with
          | [] => .error ⟨1, p + 3⟩
          | y :: u => if y = 125 then .ok (a, 4) else match Sw.hexIn y with
            | none => .error ⟨2, p + 3⟩
            | some e => if a = 1 ∨ (a = 7 ∧ e = 15) then (match u with
                | [] => .error ⟨1, p + 4⟩
                | z :: _ => if z = 125 then .ok (16 * a + e, 5) else .error ⟨2, p + 4⟩) else .error ⟨2, p + 3⟩ : Except Sw.Fault (Nat × Nat))
  rw [just_cons]
  cases r with
  | nil => rfl
  | cons o s =>
    by_cases ho : o = 123
    · subst ho
      rw [just_cons]
      show (match ontoAt 0 (p + 2) s with
        | .error e => .error e
        | .ok (a, _) => restU ((s.drop 1).length + 1) a 3 (p + 3) (s.drop 1) : Except Sw.Fault (Nat × Nat)) = _
      simp only [ne_eq, not_true_eq_false, if_false]
      cases s with
      | nil => rfl
      | cons x t =>
        cases e1 : Sw.hexIn x with
        | none => rw [onto_none e1]; simp only [e1]
        | some a =>
          have ha := hexIn_lt e1
          rw [onto_some e1]
          simp only [e1]
          by_cases h10 : a = 10
          · rw [if_neg (numN_no (by omega)), if_pos h10]
          · rw [if_pos (numN_yes (by omega)), if_neg h10]
            show restU (t.length + 1) (16 * 0 + a) 3 (p + 3) t = _
            rw [show 16 * 0 + a = a by omega]
            cases t with
            | nil => rfl
            | cons y u =>
              show (if y = 125 then Except.ok (a, 3 + 1) else if a = 0 then .error ⟨2, p + 3⟩ else match ontoAt a (p + 3) (y :: u) with
                | .error e => .error e
                | .ok (x, _) => restU (u.length + 1) x (3 + 1) (p + 3 + 1) u : Except Sw.Fault (Nat × Nat)) = _
              by_cases hy : y = 125
              · rw [if_pos hy]
                simp [hy]
              · simp only [hy, if_false]
                cases e2 : Sw.hexIn y with
                | none =>
                  rw [onto_none e2]
                  by_cases h0 : a = 0
                  · rw [if_pos h0]
                  · rw [if_neg h0]
                | some e =>
                  have he := hexIn_lt e2
                  rw [onto_some e2]
                  simp only
                  by_cases h0 : a = 0
                  · rw [if_pos h0, if_neg (by omega)]
                  · rw [if_neg h0]
                    by_cases h1 : a = 1 ∨ (a = 7 ∧ e = 15)
                    · rw [if_pos h1, if_pos (numN_yes (by omega))]
                      simp only
                      rw [rest_two (by omega)]
                    · rw [if_neg h1, if_neg (numN_no (by omega))]
    · show (match (if (123 : UInt8) = o then Sw.just (p + 1 + 1) [] s else .error ⟨2, p + 1⟩ : Except Sw.Fault Unit) with
        | .error e => .error e
        | .ok _ => match ontoAt 0 (p + 2) s with
          | .error e => .error e
          | .ok (a, _) => restU ((s.drop 1).length + 1) a 3 (p + 3) (s.drop 1) : Except Sw.Fault (Nat × Nat)) = _
      rw [if_neg (fun z => ho z.symm)]
      simp [ho]
theorem esc_lt {p : Nat} {b : List UInt8} {x n : Nat} (h : Sw.escapeAt p b = .ok (x, n)) : x < 128 := by
  cases b with
  | nil => cases h
  | cons c r =>
    unfold Sw.escapeAt at h
    dsimp only at h
    by_cases h1 : c = 34
    · rw [if_pos h1] at h; cases h; decide
    rw [if_neg h1] at h
    by_cases h2 : c = 92
    · rw [if_pos h2] at h; cases h; decide
    rw [if_neg h2] at h
    by_cases h3 : c = 110
    · rw [if_pos h3] at h; cases h; decide
    rw [if_neg h3] at h
    by_cases h4 : c = 117
    · rw [if_neg (fun z => z h4)] at h
      have h : Sw.escapeAt p (117 :: r) = .ok (x, n) := by
        unfold Sw.escapeAt
        exact h
      rw [← numbered_esc] at h
      unfold numberedAt at h
      cases e1 : Sw.just p [117, 123] (117 :: r) with
      | error e => rw [e1] at h; cases h
      | ok u =>
        rw [e1] at h
        dsimp only at h
        cases e2 : ontoAt 0 (p + 2) ((117 :: r).drop 2) with
        | error e => rw [e2] at h; cases h
        | ok y =>
          obtain ⟨a, m⟩ := y
          rw [e2] at h
          dsimp only at h
          have ha := (onto_lt e2).1
          have : ∀ (f s k n' : Nat) (l : List UInt8), s < 128 → restU f s k n' l = .ok (x, n) → x < 128 := by
            intro f
            induction f with
            | zero => intro s k n' l _ h; cases h
            | succ f ih =>
              intro s k n' l hs h
              cases l with
              | nil => cases h
              | cons z t =>
                unfold restU at h
                by_cases c1 : z = 125
                · rw [if_pos c1] at h; cases h; exact hs
                · rw [if_neg c1] at h
                  by_cases c2 : s = 0
                  · rw [if_pos c2] at h; cases h
                  · rw [if_neg c2] at h
                    cases e3 : ontoAt s n' (z :: t) with
                    | error e => rw [e3] at h; cases h
                    | ok y =>
                      obtain ⟨u', m'⟩ := y
                      rw [e3] at h
                      exact ih _ _ _ _ (onto_lt e3).1 h
          exact this _ _ _ _ _ ha h
    · rw [if_pos h4] at h
      cases h
/-- x in a tuple of whole numbers -/
theorem inV_nat (c : Nat) : ∀ l : List Nat, inV (.int (c : Int)) (l.map fun (n : Nat) => V.int (n : Int)) = l.contains c
  | [] => rfl
  | n :: l => by
    show (((n : Int) == (c : Int)) || inV (.int (c : Int)) (l.map fun (n : Nat) => V.int (n : Int))) = (n :: l).contains c
    rw [inV_nat c l, List.contains_cons]
    congr 1
    by_cases h : n = c
    · rw [h]; simp
    · rw [beq_eq_false_iff_ne.mpr (by omega), beq_eq_false_iff_ne.mpr (fun z => h z.symm)]
section
variable {P : Program} {w : World} {K : PySem.W.Frag} {mg : Str → Option Value} {base : Heap} {CF CR fFI : Addr}
theorem scXD : FnScope ["reader", "scalar"] ["reader"] (defScope sXD) := ⟨rfl, rfl, rfl, by decide +kernel, rfl, by decide +kernel, by decide +kernel⟩
theorem ok_XD {f fSB fRG fXO fXW : Addr} {fd fdS fdG fdO fdW fdI : FuncData} (F : Fun K "read_numbered" "read_numbered" sXD f fd) (T : TxR K mg CF CR fFI) (FI : Fun K "__init__" "Fault.__init__" sFI fFI fdI) (bI : Binds K fdI ["self", "kind", "place"] []) (kc : GI mg "RECORD_CLOSE" 125)
    (GS : FnOk P w K mg base (CXF P w) 3 fSB fdS ["self"] (spSB K CF CR)) (bS : Binds K fdS ["self"] []) (mS : Meth K CR "see_byte" fSB)
    (GG : FnOk P w K mg base (CXF P w) 4 fRG fdG ["self", "sign"] (spRG K CF CR)) (bG : Binds K fdG ["self", "sign"] []) (mG : Meth K CR "read_sign" fRG)
    (GW : FnOk P w K mg base (CXF P w) 5 fXW fdW ["reader", "words"] (spXW K CF CR)) (bW : Binds K fdW ["reader", "words"] []) (kW : PySem.W.keepIn K (.ref fXW) = true) (mW : mg "read_word" = some (.ref fXW))
    (GO : FnOk P w K mg base (CXF P w) 5 fXO fdO ["reader", "scalar"] (spXO K CF CR)) (bO : Binds K fdO ["reader", "scalar"] []) (kO : PySem.W.keepIn K (.ref fXO) = true) (mO : mg "read_figure_onto" = some (.ref fXO)) :
    FnOk P w K mg base (CXF P w) 6 f fd ["reader"] (spR1 K CF CR numberedAt) := by
  have GI : FnOk P w K mg base CX0 1 fFI fdI ["self", "kind", "place"] (spXI CF) := ok_FI FI T
  refine okX F scXD (fun vs H Q E h => ?_) (fun cdv A outer s H vs Q E hr h => ?_)
  · obtain ⟨r, a, p, bs, rfl, _⟩ := h
    rfl
  · obtain ⟨r, a, p, bs, rfl, ⟨dx, hr1⟩, hs, hp, q⟩ := h
    have hr2 : Room 2 _ := hr.mono (by decide)
    have hr3 : Room 3 _ := hr.mono (by decide)
    have hr4 : Room 4 _ := hr.mono (by decide)
    refine ⟨_, pss_cons (ps_expr (pe_call GW hr rfl mW kW bW .nil passX (pa_cons (pv 0) (pa_cons pe_str pa_nil))))
      (pss_cons (ps_set (i := 1) scXD.nd rfl (Or.inl rfl) (pe_call GO hr rfl mO kO bO .nil passX (pa_cons (pv 0) (pa_cons pe_int pa_nil))))
      (pss_cons (ps_while PassesOwn.leaving (pt_cmpR op_ne (pe_meth0 (pv 0) T.cR mS GS hr3 bS .nil passX) (pgi kc rfl) (nomark _))
        (pss_cons (ps_if (pt_cmpR op_eq (pv 1) pe_int (nomark _)) (pss_one (ps_raise T.xc GI bI hr2 flies_cx rfl rfl T.mF (pa_cons (pgi T.e2 rfl) (pa_cons (pe_fld (pv 0) rfl) pa_nil)))) pss_nil)
        (pss_one (ps_set (i := 1) scXD.nd rfl (Or.inl rfl) (pe_call GO hr rfl mO kO bO .nil passX (pa_cons (pv 0) (pa_cons (pv 1) pa_nil)))))))
      (pss_cons (ps_expr (pe_meth (pv 0) T.cR mG GG hr4 bG .nil passX (pa_cons (pgi kc rfl) pa_nil)))
      (pss_one (ps_ret (pv 1)))))), ?_⟩
    have es : Str.ofString "u{" = sB [117, 123] := by rw [Str.ofString_eq_toList]; rfl
    unfold numberedAt at q
    refine ⟨_, rfl, r, a, p, bs, [117, 123], congrArg (fun t => [V.ref r, V.str t]) es, (by decide), ⟨dx, hr1⟩, hs, hp, ?_⟩
    cases e1 : Sw.just p [117, 123] (bs.drop p) with
    | error e =>
      rw [e1] at q
      exact q
    | ok u =>
      rw [e1] at q
      dsimp only at q
      intro H1 rd1 k1 hp2
      have hp2 : p + 2 ≤ bs.length := hp2
      have rd1 : RdAt CR H1 r a (p + 2) := rd1
      have hs1 : SqL K H1 a (bs.map bv) := sq_kp hs k1 hr1
      rw [List.drop_drop, List.drop_drop] at q
      refine ⟨_, rfl, r, a, p + 2, 0, bs, rfl, by decide, rd1, hs1, hp2, ?_⟩
      cases e2 : ontoAt 0 (p + 2) (bs.drop (p + 2)) with
      | error e =>
        rw [e2] at q
        exact q
      | ok y =>
        obtain ⟨x, n0⟩ := y
        rw [e2] at q
        dsimp only at q
        obtain ⟨hx, rfl, _⟩ := onto_lt e2
        intro H2 rd2 k2 l2
        have hs2 : SqL K H2 a (bs.map bv) := by
          obtain ⟨d1, e⟩ := rd1
          exact sq_kp hs1 k2 e
        generalize hF : restU ((bs.drop (p + 3)).length + 1) x 3 (p + 3) (bs.drop (p + 3)) = res at q
        refine ⟨fun m σ G => ∃ (s n f : Nat), σ = [some (.ref r), some (.int (s : Int))] ∧ s < 128 ∧ RdAt CR G r a n ∧ Kp H2 G r ∧ n ≤ bs.length ∧ p + 3 ≤ n ∧ m = bs.length - n ∧ bs.length - n + 1 ≤ f ∧ res = restU f s (n - p) n (bs.drop n),
          ⟨bs.length - (p + 3), x, p + 3, (bs.drop (p + 3)).length + 1, rfl, hx, rd2, Kp.refl _ _, l2, Nat.le_refl _, rfl, by rw [List.length_drop]; omega, by rw [show p + 3 - p = 3 by omega]; exact hF.symm⟩, ?_⟩
        rintro m σ G ⟨s, n, f, rfl, hs7, ⟨dg, hg⟩, kG, hn2, hn1, hm, hf, er⟩
        have hsG : SqL K G a (bs.map bv) := by
          obtain ⟨d1, e⟩ := rd2
          exact sq_kp hs2 kG e
        obtain ⟨f, rfl⟩ : ∃ k, f = k + 1 := ⟨f - 1, by omega⟩
        refine ⟨_, rfl, r, dg, _, rfl, hg, rf_no a n (by decide +kernel) (by decide +kernel), r, a, n, bs, rfl, ⟨dg, hg⟩, hsG, ?_⟩
        cases eb : bs[n]? with
        | none =>
          obtain ⟨d1, d2⟩ := drop_end eb hn2
          rw [d1] at er
          have er : res = .error ⟨1, n⟩ := er
          rw [er] at q
          have q : Err E CF (.int 1) (.int (n : Int)) := q
          rw [d2] at q
          exact q
        | some c =>
          have hlt := (List.getElem?_eq_some_iff.mp eb).1
          have ed := drop_at eb
          refine ⟨rfl, _, rfl, ?_⟩
          rw [show (V.int 125) = bv 125 from rfl, bv_inj]
          rw [ed] at er
          have er : res = (if c = 125 then Except.ok (s, n - p + 1) else if s = 0 then .error ⟨2, n⟩ else match ontoAt s n (c :: bs.drop (n + 1)) with
            | .error e => .error e
            | .ok (x, _) => restU f x (n - p + 1) (n + 1) (bs.drop (n + 1)) : Except Sw.Fault (Nat × Nat)) := er
          by_cases hc : c = 125
          · rw [if_pos hc] at er
            rw [decide_eq_true hc]
            subst hc
            refine iteF ⟨_, rfl, r, dg, _, rfl, hg, rf_no a n (by decide +kernel) (by decide +kernel), r, a, n, bs, 125, rfl, ⟨dg, hg⟩, hsG, hn2, ?_⟩
            rw [ed, just_cons]
            have e0 : ∀ (n : Nat) (l : List UInt8), Sw.just n [] l = .ok () := fun n l => by unfold Sw.just; rfl
            rw [e0]
            intro G' rd' k'
            rw [er] at q
            have q : ∀ H' : Hp, RdAt CR H' r a (p + (n - p + 1)) → Kp H H' r → p + (n - p + 1) ≤ bs.length → Q (.int (s : Int)) H' := q
            rw [show p + (n - p + 1) = n + 1 by omega] at q
            exact ⟨_, rfl, q G' rd' (((k1.trans k2).trans kG).trans k') hlt⟩
          · rw [if_neg hc] at er
            rw [decide_eq_false hc]
            refine iteT ⟨_, fun σ' G' h => h, ?_⟩
            refine ⟨_, rfl, rfl, _, rfl, ?_⟩
            rw [dint]
            by_cases h0 : s = 0
            · rw [decide_eq_true (show (s : Int) = 0 by omega)]
              rw [if_pos h0] at er
              rw [er] at q
              exact iteT ⟨_, rfl, r, CR, dg, _, _, rfl, hg, T.cR, T.nPl, rf_place a n, _, _, rfl, q⟩
            · rw [decide_eq_false (show ¬ (s : Int) = 0 by omega)]
              rw [if_neg h0] at er
              refine iteF ⟨_, rfl, _, rfl, r, a, n, s, bs, rfl, by omega, ⟨dg, hg⟩, hsG, hn2, ?_⟩
              rw [ed]
              cases e3 : ontoAt s n (c :: bs.drop (n + 1)) with
              | error e =>
                rw [e3] at er
                have er : res = .error e := er
                rw [er] at q
                exact q
              | ok y =>
                obtain ⟨x3, n3⟩ := y
                rw [e3] at er
                obtain ⟨hx3, rfl, _⟩ := onto_lt e3
                intro G' rd' k' l'
                exact ⟨bs.length - (n + 1), by omega, x3, n + 1, f, rfl, hx3, rd', kG.trans k', l', by omega, rfl, by omega, by rw [show n + 1 - p = n - p + 1 by omega]; exact er⟩
theorem scXK : FnScope ["reader", "byte"] ["reader"] (defScope sXK) := ⟨rfl, rfl, rfl, by decide +kernel, rfl, by decide +kernel, by decide +kernel⟩
theorem ok_XK {f fSB fRG fPB fXD : Addr} {fd fdS fdG fdB fdD fdI : FuncData} (F : Fun K "read_behind_backslash" "read_behind_backslash" sXK f fd) (T : TxR K mg CF CR fFI) (FI : Fun K "__init__" "Fault.__init__" sFI fFI fdI) (bI : Binds K fdI ["self", "kind", "place"] [])
    (kb : GI mg "BACKSLASH" 92) (ku : GI mg "SMALL_U" 117) (kq : GI mg "QUOTE" 34) (kn : GI mg "SMALL_N" 110) (kl : GI mg "LINE_FEED" 10)
    (GS : FnOk P w K mg base (CXF P w) 3 fSB fdS ["self"] (spSB K CF CR)) (bS : Binds K fdS ["self"] []) (mS : Meth K CR "see_byte" fSB)
    (GG : FnOk P w K mg base (CXF P w) 4 fRG fdG ["self", "sign"] (spRG K CF CR)) (bG : Binds K fdG ["self", "sign"] []) (mG : Meth K CR "read_sign" fRG)
    (GB : FnOk P w K mg base (CXF P w) 3 fPB fdB ["self", "how_many"] (spPB K CF CR)) (bB : Binds K fdB ["self", "how_many"] []) (mB : Meth K CR "pass_bytes" fPB)
    (GD : FnOk P w K mg base (CXF P w) 6 fXD fdD ["reader"] (spR1 K CF CR numberedAt)) (bD : Binds K fdD ["reader"] []) (kD : PySem.W.keepIn K (.ref fXD) = true) (mD : mg "read_numbered" = some (.ref fXD)) :
    FnOk P w K mg base (CXF P w) 7 f fd ["reader"] (spR1 K CF CR behindAt) := by
  have GI : FnOk P w K mg base CX0 1 fFI fdI ["self", "kind", "place"] (spXI CF) := ok_FI FI T
  refine okX F scXK (fun vs H Q E h => ?_) (fun cdv A outer s H vs Q E hr h => ?_)
  · obtain ⟨r, a, p, bs, rfl, _⟩ := h
    rfl
  · obtain ⟨r, a, p, bs, rfl, ⟨dx, hr1⟩, hs, hp, q⟩ := h
    have hr2 : Room 2 _ := hr.mono (by decide)
    have hr3 : Room 3 _ := hr.mono (by decide)
    have hr4 : Room 4 _ := hr.mono (by decide)
    refine ⟨_, pss_cons (ps_expr (pe_meth (pv 0) T.cR mG GG hr4 bG .nil passX (pa_cons (pgi kb rfl) pa_nil)))
      (pss_cons (ps_set (i := 1) scXK.nd rfl (Or.inl rfl) (pe_meth0 (pv 0) T.cR mS GS hr3 bS .nil passX))
      (pss_cons (ps_if (pt_cmpR op_eq (pv 1) (pgi ku rfl) (nomark _)) (pss_one (ps_ret (pe_call GD hr rfl mD kD bD .nil passX (pa_cons (pv 0) pa_nil)))) pss_nil)
      (pss_cons (ps_if (pt_cmpR op_notIn_seq (pv 1) (pe_tup (pa_cons (pgi kq rfl) (pa_cons (pgi kb rfl) (pa_cons (pgi kn rfl) pa_nil)))) (by with_unfolding_all rfl)) (pss_one (ps_raise T.xc GI bI hr2 flies_cx rfl rfl T.mF (pa_cons (pgi T.e2 rfl) (pa_cons (pe_fld (pv 0) rfl) pa_nil)))) pss_nil)
      (pss_cons (ps_expr (pe_meth (pv 0) T.cR mB GB hr3 bB .nil passX (pa_cons pe_int pa_nil)))
      (pss_one (ps_ret (pe_ifExp (pt_cmpR op_eq (pv 1) (pgi kn rfl) (nomark _)) (pgi kl rfl) (pv 1)))))))), ?_⟩
    unfold behindAt at q
    refine ⟨_, rfl, r, dx, _, rfl, hr1, rf_no a p (by decide +kernel) (by decide +kernel), r, a, p, bs, 92, rfl, ⟨dx, hr1⟩, hs, hp, ?_⟩
    cases e1 : Sw.just p [92] (bs.drop p) with
    | error e =>
      rw [e1] at q
      exact q
    | ok u =>
      rw [e1] at q
      dsimp only at q
      rintro H1 ⟨d1, h1⟩ k1
      have hp1 : p + 1 ≤ bs.length := by
        cases eb : bs[p]? with
        | none =>
          rw [(drop_end eb hp).1] at e1
          cases e1
        | some d => exact (List.getElem?_eq_some_iff.mp eb).1
      have hs1 : SqL K H1 a (bs.map bv) := sq_kp hs k1 hr1
      rw [List.drop_drop] at q
      refine ⟨_, rfl, r, d1, _, rfl, h1, rf_no a _ (by decide +kernel) (by decide +kernel), r, a, p + 1, bs, rfl, ⟨d1, h1⟩, hs1, ?_⟩
      cases eb : bs[p + 1]? with
      | none =>
        obtain ⟨d1, d2⟩ := drop_end eb hp1
        rw [d1] at q
        have q : Err E CF (.int 1) (.int ((p + 1 : Nat) : Int)) := q
        rw [d2] at q
        exact q
      | some c =>
        have hlt := (List.getElem?_eq_some_iff.mp eb).1
        have ed := drop_at eb
        rw [ed] at q
        refine ⟨_, rfl, rfl, _, rfl, ?_⟩
        rw [show (V.int 117) = bv 117 from rfl, bv_inj]
        by_cases hu : c = 117
        · subst hu
          rw [← numbered_esc, ← ed] at q
          rw [decide_eq_true rfl]
          refine iteT ⟨_, rfl, r, a, p + 1, bs, rfl, ⟨d1, h1⟩, hs1, hp1, ?_⟩
          cases e2 : numberedAt (p + 1) (bs.drop (p + 1)) with
          | error e =>
            rw [e2] at q
            exact q
          | ok y =>
            obtain ⟨x, n⟩ := y
            rw [e2] at q
            intro H2 rd2 k2 l2
            have q : ∀ H' : Hp, RdAt CR H' r a (p + (n + 1)) → Kp H H' r → p + (n + 1) ≤ bs.length → Q (.int (x : Int)) H' := q
            rw [show p + (n + 1) = p + 1 + n by omega] at q
            exact q H2 rd2 (k1.trans k2) l2
        · rw [decide_eq_false hu]
          refine iteF ⟨_, rfl, (by show 3 ≤ sizeLine; decide), fun t ht => ⟨t, _, rfl, .inr (SqT.of upd_same), rfl, rfl, _, rfl, ?_⟩⟩
          have ei : (if true = true then !inV (bv c) [V.int 34, V.int 92, V.int 110] else inV (bv c) [V.int 34, V.int 92, V.int 110]) = !([34, 92, 110].contains c.toNat) := by
            rw [if_pos rfl]
            exact congrArg (!·) (inV_nat c.toNat [34, 92, 110])
          show (if (if true = true then !inV (bv c) [V.int 34, V.int 92, V.int 110] else inV (bv c) [V.int 34, V.int 92, V.int 110]) = true then _ else _)
          rw [ei]
          have kt : Kp H1 (upd H1 t (.tup [V.int 34, V.int 92, V.int 110])) r := fun b o e _ => (upd_ne (ne_of_none e ht)).trans e
          have ht1 : upd H1 t (.tup [V.int 34, V.int 92, V.int 110]) r = some (.ins CR d1 (rf a (p + 1))) := (upd_ne (ne_of_none h1 ht)).trans h1
          have hst := sq_kp hs1 kt h1
          have hn2 : ∀ (k : Nat) (d : UInt8), d.toNat = k → ¬ c = d → ¬ c.toNat = k := fun k d e z y => z (UInt8.toNat_inj.mp (y.trans e.symm))
          by_cases c1 : c = 34 ∨ c = 92 ∨ c = 110
          · have ec : [34, 92, 110].contains c.toNat = true := by
              rcases c1 with rfl | rfl | rfl <;> rfl
            rw [ec]
            refine iteF ⟨_, rfl, r, d1, _, rfl, ht1, rf_no a _ (by decide +kernel) (by decide +kernel), r, a, p + 1, 1, bs, rfl, ⟨d1, ht1⟩, hst, hp1, ?_⟩
            rw [if_neg (by omega)]
            intro H2 rd2 k2
            refine ⟨_, rfl, rfl, _, rfl, ?_⟩
            rw [show (V.int 110) = bv 110 from rfl, bv_inj]
            have kk := (k1.trans kt).trans k2
            rcases c1 with rfl | rfl | rfl
            · rw [decide_eq_false (by decide)]
              exact iteF ⟨_, rfl, q H2 rd2 kk hlt⟩
            · rw [decide_eq_false (by decide)]
              exact iteF ⟨_, rfl, q H2 rd2 kk hlt⟩
            · rw [decide_eq_true rfl]
              exact iteT (q H2 rd2 kk hlt)
          · have c2 : ¬ c = 34 := fun z => c1 (.inl z)
            have c3 : ¬ c = 92 := fun z => c1 (.inr (.inl z))
            have c4 : ¬ c = 110 := fun z => c1 (.inr (.inr z))
            have ec : [34, 92, 110].contains c.toNat = false := by
              simp [hn2 34 34 rfl c2, hn2 92 92 rfl c3, hn2 110 110 rfl c4]
            rw [ec]
            have ee : Sw.escapeAt (p + 1) (c :: bs.drop (p + 1 + 1)) = .error ⟨2, p + 1⟩ := by
              unfold Sw.escapeAt
              dsimp only
              rw [if_neg c2, if_neg c3, if_neg c4, if_pos hu]
            rw [ee] at q
            exact iteT ⟨_, rfl, r, CR, d1, _, _, rfl, ht1, T.cR, T.nPl, rf_place a _, _, _, rfl, q⟩
end
end L2.J

set_option Elab.async false
set_option linter.all false
set_option maxRecDepth 100000
set_option maxHeartbeats 2000000
namespace L2.J
open PySem PySem.Spec PyProof.Rows L2.XC
/-! ### quoted texts -/
def scalAt (p : Nat) (b : List UInt8) : Except Sw.Fault (List UInt8 × Nat) := match Sw.scalarAt p b with
  | .error q => .error (if q = p + b.length then ⟨1, q⟩ else ⟨5, q⟩)
  | .ok (x, s) => .ok (Sw.utf8One x, b.length - s.length)
def quoteAt (p : Nat) (b : List UInt8) : Except Sw.Fault (List UInt8 × Nat) := match Sw.just p [34] b with
  | .error e => .error e
  | .ok _ => (Sw.quotedAt (b.length + 1) (p + 1) (b.drop 1)).map fun (z : List Nat × Nat) => (Sw.utf8 z.1, z.2 + 1)
theorem follow_fb : ∀ (k lo hi x p : Nat) (b : List UInt8), match Sw.follow k lo hi x p b with
    | .ok (_, s) => Um.fbad lo hi p (b.take k) = none ∧ k ≤ b.length ∧ s = b.drop k
    | .error q => (Um.fbad lo hi p (b.take k) = some q ∧ q < p + b.length) ∨ (Um.fbad lo hi p (b.take k) = none ∧ q = p + b.length ∧ b.length < k)
  | 0, lo, hi, x, p, b => ⟨rfl, Nat.zero_le _, rfl⟩
  | k + 1, lo, hi, x, p, [] => .inr ⟨rfl, rfl, Nat.succ_pos k⟩
  | k + 1, lo, hi, x, p, c :: b => by
    have e1 : Sw.follow (k + 1) lo hi x p (c :: b) = if lo ≤ c.toNat ∧ c.toNat ≤ hi then Sw.follow k 0x80 0xBF (64 * x + c.toNat % 64) (p + 1) b else .error p := rfl
    have e2 : Um.fbad lo hi p ((c :: b).take (k + 1)) = if c.toNat < lo ∨ hi < c.toNat then some p else Um.fbad 128 191 (p + 1) (b.take k) := rfl
    rw [e1, e2]
    by_cases h : lo ≤ c.toNat ∧ c.toNat ≤ hi
    · rw [if_pos h, if_neg (by omega)]
      have ih := follow_fb k 0x80 0xBF (64 * x + c.toNat % 64) (p + 1) b
      cases e : Sw.follow k 0x80 0xBF (64 * x + c.toNat % 64) (p + 1) b with
      | ok y =>
        rw [e] at ih
        obtain ⟨y, s⟩ := y
        obtain ⟨i1, i2, i3⟩ := ih
        exact ⟨i1, by rw [List.length_cons]; omega, i3⟩
      | error q =>
        rw [e] at ih
        rw [List.length_cons]
        rcases ih with ⟨i1, i2⟩ | ⟨i1, i2, i3⟩
        · exact .inl ⟨i1, by omega⟩
        · exact .inr ⟨i1, by omega, by omega⟩
    · rw [if_neg h, if_pos (by omega)]
      exact .inl ⟨rfl, by rw [List.length_cons]; omega⟩
theorem scal_ps {p : Nat} {c : UInt8} {b : List UInt8} (h : ¬ c.toNat < 128) : match Sw.scalarAt p (c :: b) with
    | .ok (_, s) => psAt p c b = .ok (p + ((c :: b).length - s.length)) ∧ s.length < (c :: b).length
    | .error q => (psAt p c b = .error q ∧ q < p + (c :: b).length) ∨ (q = p + (c :: b).length ∧ ∃ z, psAt p c b = .ok z ∧ p + (c :: b).length < z) := by
  have el : Sw.leads c.toNat = if Um.cf c.toNat = 0 then none else some (Um.cf c.toNat, Um.ls c.toNat, Um.hs c.toNat) := by
    rw [Um.leads_eq _ c.toNat_lt, if_neg h]
  have e1 : Sw.scalarAt p (c :: b) = match Sw.leads c.toNat with
    | none => .error p
    | some (k, lo, hi) => Sw.follow k lo hi (Sw.firstBits k c.toNat) (p + 1) b := rfl
  rw [e1, el]
  unfold psAt
  by_cases h0 : Um.cf c.toNat = 0
  · rw [if_pos h0, if_pos h0]
    exact .inl ⟨rfl, by rw [List.length_cons]; omega⟩
  · rw [if_neg h0, if_neg h0]
    show (match Sw.follow (Um.cf c.toNat) (Um.ls c.toNat) (Um.hs c.toNat) (Sw.firstBits (Um.cf c.toNat) c.toNat) (p + 1) b with
      | .ok (_, s) => _
      | .error q => _)
    have ih := follow_fb (Um.cf c.toNat) (Um.ls c.toNat) (Um.hs c.toNat) (Sw.firstBits (Um.cf c.toNat) c.toNat) (p + 1) b
    cases e : Sw.follow (Um.cf c.toNat) (Um.ls c.toNat) (Um.hs c.toNat) (Sw.firstBits (Um.cf c.toNat) c.toNat) (p + 1) b with
    | ok y =>
      obtain ⟨y, s⟩ := y
      rw [e] at ih
      obtain ⟨i1, i2, rfl⟩ := ih
      rw [i1]
      dsimp only
      rw [List.length_cons, List.length_drop]
      exact ⟨congrArg Except.ok (by omega), by omega⟩
    | error q =>
      rw [e] at ih
      rw [List.length_cons]
      rcases ih with ⟨i1, i2⟩ | ⟨i1, i2, i3⟩
      · rw [i1]
        exact .inl ⟨rfl, by omega⟩
      · rw [i1]
        exact .inr ⟨by omega, _, rfl, by omega⟩
theorem scal_low {p : Nat} {c : UInt8} {b : List UInt8} (h : c.toNat < 128) : Sw.scalarAt p (c :: b) = .ok (c.toNat, b) := by
  have e1 : Sw.scalarAt p (c :: b) = match Sw.leads c.toNat with
    | none => .error p
    | some (k, lo, hi) => Sw.follow k lo hi (Sw.firstBits k c.toNat) (p + 1) b := rfl
  rw [e1, Um.leads_eq _ c.toNat_lt, if_pos h]
  rfl
theorem one_low {x : Nat} (h : x < 128) : Sw.utf8One x = [UInt8.ofNat x] := if_pos h
section
variable {P : Program} {w : World} {K : PySem.W.Frag} {mg : Str → Option Value} {base : Heap} {CF CR fFI : Addr}
theorem scXL : FnScope ["reader", "behind", "first"] ["reader"] (defScope sXL) := ⟨rfl, rfl, rfl, by decide +kernel, rfl, by decide +kernel, by decide +kernel⟩
theorem ok_XL {f fSB fRB fPB fPS : Addr} {fd fdS fdR fdB fdP : FuncData} (F : Fun K "read_scalar" "read_scalar" sXL f fd) (T : TxR K mg CF CR fFI)
    (GS : FnOk P w K mg base (CXF P w) 3 fSB fdS ["self"] (spSB K CF CR)) (bS : Binds K fdS ["self"] []) (mS : Meth K CR "see_byte" fSB)
    (GR : FnOk P w K mg base (CXF P w) 4 fRB fdR ["self"] (spRB K CF CR)) (bR : Binds K fdR ["self"] []) (mR : Meth K CR "read_byte" fRB)
    (GB : FnOk P w K mg base (CXF P w) 3 fPB fdB ["self", "how_many"] (spPB K CF CR)) (bB : Binds K fdB ["self", "how_many"] []) (mB : Meth K CR "pass_bytes" fPB)
    (GP : FnOk P w K mg base (CXF P w) 3 fPS fdP ["row", "place", "end"] (spPS K CF)) (bP : Binds K fdP ["row", "place", "end"] []) (kP : PySem.W.keepIn K (.ref fPS) = true) (mP : mg "pass_scalar" = some (.ref fPS)) :
    FnOk P w K mg base (CXF P w) 5 f fd ["reader"] (spR2 K CF CR 1 scalAt) := by
  refine okX F scXL (fun vs H Q E h => ?_) (fun cdv A outer s H vs Q E hr h => ?_)
  · obtain ⟨r, a, p, bs, rfl, _⟩ := h
    rfl
  · obtain ⟨r, a, p, bs, rfl, ⟨dx, hr1⟩, hs, hp, hz, q⟩ := h
    have hr3 : Room 3 _ := hr.mono (by decide)
    have hr4 : Room 4 _ := hr.mono (by decide)
    refine ⟨_, pss_cons (ps_if (pt_cmpR op_lt (pe_meth0 (pv 0) T.cR mS GS hr3 bS .nil passX) pe_int (nomark _)) (pss_one (ps_ret (pe_lst (pa_cons (pe_meth0 (pv 0) T.cR mR GR hr4 bR .nil passX) pa_nil)))) pss_nil)
      (pss_cons (ps_set (i := 1) scXL.nd rfl (Or.inl rfl) (pe_call GP hr3 rfl mP kP bP .nil passX (pa_cons (pe_fld (pv 0) rfl) (pa_cons (pe_fld (pv 0) rfl) (pa_cons (pe_callB call_len_seq (by rfl) T.len PySem.boot_len (pa_cons (pe_fld (pv 0) rfl) pa_nil)) pa_nil)))))
      (pss_cons (ps_set (i := 2) scXL.nd rfl (Or.inl rfl) (pe_meth (pv 0) T.cR mB GB hr3 bB .nil passX (pa_cons (pe_op op_sub (pv 1) (pe_fld (pv 0) rfl)) pa_nil)))
      (pss_one (ps_ret (pe_slice sl_list (pe_fld (pv 0) rfl) (po_some (pv 2)) (po_some (pv 1))))))), ?_⟩
    unfold scalAt at q
    refine ⟨_, rfl, r, dx, _, rfl, hr1, rf_no a p (by decide +kernel) (by decide +kernel), r, a, p, bs, rfl, ⟨dx, hr1⟩, hs, ?_⟩
    cases e : bs[p]? with
    | none =>
      obtain ⟨e1, e2⟩ := drop_end e hp
      rw [e1] at q
      have q : Err E CF (.int ((if p = p + 0 then ⟨1, p⟩ else ⟨5, p⟩ : Sw.Fault).kind : Int)) (.int ((if p = p + 0 then ⟨1, p⟩ else ⟨5, p⟩ : Sw.Fault).place : Int)) := q
      rw [if_pos (by omega)] at q
      have q : Err E CF (.int 1) (.int (p : Int)) := q
      rw [e2] at q
      exact q
    | some c =>
      have hlt := (List.getElem?_eq_some_iff.mp e).1
      have ed := drop_at e
      rw [ed] at q
      refine ⟨_, _, rfl, rfl, _, rfl, ?_⟩
      by_cases hc : c.toNat < 128
      · rw [decide_eq_true (show (c.toNat : Int) < 128 by omega)]
        rw [scal_low hc] at q
        refine iteT ⟨_, rfl, r, dx, _, rfl, hr1, rf_no a p (by decide +kernel) (by decide +kernel), r, a, p, bs, rfl, ⟨dx, hr1⟩, hs, ?_⟩
        rw [e]
        intro H1 rd1 k1
        refine ⟨(by show 1 ≤ sizeLine; decide), fun x hx => ?_⟩
        have q : ∀ (t : Addr) (H' : Hp), RdAt CR H' r a (p + ((c :: bs.drop (p + 1)).length - (bs.drop (p + 1)).length)) → Kp H H' r → H t = none → H' t = some (.lst ((Sw.utf8One c.toNat).map bv)) → p + ((c :: bs.drop (p + 1)).length - (bs.drop (p + 1)).length) ≤ bs.length → (Sw.utf8One c.toNat).length ≤ 1 * ((c :: bs.drop (p + 1)).length - (bs.drop (p + 1)).length) → Q (.ref t) H' := q
        rw [List.length_cons, Nat.add_sub_cancel_left, one_low hc, UInt8.ofNat_toNat] at q
        have hxr : x ≠ r := fun z => by
          obtain ⟨d1, e⟩ := rd1
          rw [z, e] at hx
          cases hx
        refine q x _ ?_ (fun b o e n => (upd_ne (ne_of_none (k1 _ _ e n) hx)).trans (k1 _ _ e n)) ?_ upd_same hlt (by show 1 ≤ 1 * 1; omega)
        · obtain ⟨d1, e⟩ := rd1
          exact ⟨d1, (upd_ne (ne_of_none e hx)).trans e⟩
        · cases e : H x with
          | none => rfl
          | some o =>
            have := k1 _ _ e hxr
            rw [hx] at this
            cases this
      · rw [decide_eq_false (show ¬ (c.toNat : Int) < 128 by omega)]
        refine iteF ⟨_, rfl, r, CR, dx, _, _, rfl, hr1, T.cR, T.nRow, rf_row a p, _, rfl, r, CR, dx, _, _, rfl, hr1, T.cR, T.nPl, rf_place a p, _, rfl, r, CR, dx, _, _, rfl, hr1, T.cR, T.nRow, rf_row a p, a, _, rfl, .inl hs, a, p, bs.length, c, bs, ?_, hs, e, hlt, Nat.le_refl _, hz, ?_⟩
        · rw [List.length_map]
          rfl
        rw [List.take_of_length_le (by rw [List.length_drop]; omega)]
        have sp := scal_ps (p := p) (b := bs.drop (p + 1)) hc
        have el : p + (c :: bs.drop (p + 1)).length = bs.length := by rw [List.length_cons, List.length_drop]; omega
        rw [el] at sp
        cases es : Sw.scalarAt p (c :: bs.drop (p + 1)) with
        | error q' =>
          rw [es] at sp q
          have q : Err E CF (.int ((if q' = p + (c :: bs.drop (p + 1)).length then ⟨1, q'⟩ else ⟨5, q'⟩ : Sw.Fault).kind : Int)) (.int ((if q' = p + (c :: bs.drop (p + 1)).length then ⟨1, q'⟩ else ⟨5, q'⟩ : Sw.Fault).place : Int)) := q
          rw [el] at q
          rcases sp with ⟨s1, s2⟩ | ⟨s1, z, s2, s3⟩
          · rw [if_neg (by omega)] at q
            rw [s1]
            exact q
          · rw [if_pos s1, s1] at q
            rw [s2]
            refine ⟨_, rfl, r, dx, _, rfl, hr1, rf_no a p (by decide +kernel) (by decide +kernel), _, rfl, _, rfl, r, CR, dx, _, _, rfl, hr1, T.cR, T.nPl, rf_place a p, _, _, rfl, rfl, r, a, p, z - p, bs, ?_, ⟨dx, hr1⟩, hs, hp, ?_⟩
            · show [V.ref r, V.int ((z : Int) - (p : Int))] = _
              rw [show (z : Int) - (p : Int) = ((z - p : Nat) : Int) by omega]
            · rw [if_pos (by omega)]
              exact q
        | ok y =>
          obtain ⟨x, sfx⟩ := y
          rw [es] at sp q
          obtain ⟨s1, s2⟩ := sp
          obtain ⟨en, _⟩ := Pm.scalar_enc es
          rw [s1]
          have hll : (c :: bs.drop (p + 1)).length = bs.length - p := by omega
          have hul : (Sw.utf8One x).length = bs.length - p - sfx.length := by
            have := congrArg List.length en
            rw [List.length_append, hll] at this
            omega
          have q : ∀ (t : Addr) (H' : Hp), RdAt CR H' r a (p + ((c :: bs.drop (p + 1)).length - sfx.length)) → Kp H H' r → H t = none → H' t = some (.lst ((Sw.utf8One x).map bv)) → p + ((c :: bs.drop (p + 1)).length - sfx.length) ≤ bs.length → (Sw.utf8One x).length ≤ 1 * ((c :: bs.drop (p + 1)).length - sfx.length) → Q (.ref t) H' := q
          rw [hll] at q s2 ⊢
          generalize hn : bs.length - p - sfx.length = n at *
          refine ⟨_, rfl, r, dx, _, rfl, hr1, rf_no a p (by decide +kernel) (by decide +kernel), _, rfl, _, rfl, r, CR, dx, _, _, rfl, hr1, T.cR, T.nPl, rf_place a p, _, _, rfl, rfl, r, a, p, n, bs, ?_, ⟨dx, hr1⟩, hs, hp, ?_⟩
          · show [V.ref r, V.int (((p + n : Nat) : Int) - (p : Int))] = _
            rw [show ((p + n : Nat) : Int) - (p : Int) = (n : Int) by omega]
          · rw [if_neg (by omega)]
            rintro H1 ⟨d1, h1⟩ k1
            have hs1 := sq_kp hs k1 hr1
            refine ⟨_, rfl, r, CR, d1, _, _, rfl, h1, T.cR, T.nRow, rf_row a _, _, rfl, _, rfl, _, rfl, _, rfl, a, _, rfl, hs1, fun x' hx => ?_⟩
            have hxr : x' ≠ r := fun z => by
              rw [z, h1] at hx
              cases hx
            refine q x' _ ⟨d1, (upd_ne (ne_of_none h1 hx)).trans h1⟩ (fun b o e n => (upd_ne (ne_of_none (k1 _ _ e n) hx)).trans (k1 _ _ e n)) ?_ ?_ (by omega) (by omega)
            · cases e : H x' with
              | none => rfl
              | some o =>
                have := k1 _ _ e hxr
                rw [hx] at this
                cases this
            · rw [upd_same, cut_bytes bs p n (by omega) rfl rfl, ed, en, List.take_append_of_le_length (by omega), List.take_of_length_le (by omega)]
end
end L2.J

set_option Elab.async false
set_option linter.all false
set_option maxRecDepth 100000
set_option maxHeartbeats 2000000
namespace L2.J
open PySem PySem.Spec PyProof.Rows L2.XC
theorem tand_of {tA tB : TT} {σ : St} {H : Hp} {Q : Bool → Hp → Prop} {a b : Bool} (ha : ∀ Q' : Bool → Hp → Prop, Q' a H → tA σ H Q') (hb : a = true → ∀ Q' : Bool → Hp → Prop, Q' b H → tB σ H Q') (q : Q (a && b) H) : tAnd tA tB σ H Q := by
  refine ha _ ?_
  cases a with
  | true => exact iteT (hb rfl _ q)
  | false => exact iteF q
theorem tor_of {tA tB : TT} {σ : St} {H : Hp} {Q : Bool → Hp → Prop} {a b : Bool} (ha : ∀ Q' : Bool → Hp → Prop, Q' a H → tA σ H Q') (hb : a = false → ∀ Q' : Bool → Hp → Prop, Q' b H → tB σ H Q') (q : Q (a || b) H) : tOr tA tB σ H Q := by
  refine ha _ ?_
  cases a with
  | true => exact iteT q
  | false => exact iteF (hb rfl _ q)
theorem seq_or {tA tB : TT} {t u rest : TS} {D : Ends} {σ : St} {H : Hp} {a b : Bool} (ha : ∀ Q' : Bool → Hp → Prop, Q' a H → tA σ H Q') (hb : a = false → ∀ Q' : Bool → Hp → Prop, Q' b H → tB σ H Q')
    (q : if (a || b) = true then t { D with nx := rest D } σ H else u { D with nx := rest D } σ H) : tSeq (tIfS (tOr tA tB) t u) rest D σ H :=
  tor_of (tA := tA) (tB := tB) (Q := fun c H1 => if c = true then t { D with nx := rest D } σ H1 else u { D with nx := rest D } σ H1) ha hb q
theorem if_or {tA tB : TT} {t u : TS} {D : Ends} {σ : St} {H : Hp} {a b : Bool} (ha : ∀ Q' : Bool → Hp → Prop, Q' a H → tA σ H Q') (hb : a = false → ∀ Q' : Bool → Hp → Prop, Q' b H → tB σ H Q')
    (q : if (a || b) = true then t D σ H else u D σ H) : tIfS (tOr tA tB) t u D σ H :=
  tor_of (tA := tA) (tB := tB) (Q := fun c H1 => if c = true then t D σ H1 else u D σ H1) ha hb q
theorem quo_cons (f n : Nat) (c : UInt8) (r : List UInt8) : Sw.quotedAt (f + 1) n (c :: r) = if c = 34 then .ok ([], 1) else if c = 92 then (match Sw.escapeAt (n + 1) r with
      | .error e => .error e
      | .ok (x, k) => (Sw.quotedAt f (n + 1 + k) (r.drop k)).map fun (z : List Nat × Nat) => (x :: z.1, z.2 + 1 + k))
    else if c.toNat < 32 ∨ c = 127 then .error ⟨2, n⟩ else match Sw.scalarAt n (c :: r) with
      | .error q => .error (if q = n + (c :: r).length then ⟨1, q⟩ else ⟨5, q⟩)
      | .ok (x, s) => (Sw.quotedAt f (n + ((c :: r).length - s.length)) s).map fun (z : List Nat × Nat) => (x :: z.1, z.2 + ((c :: r).length - s.length)) := rfl
theorem quo_nil (f n : Nat) : Sw.quotedAt f n [] = .error ⟨1, n⟩ := by
  cases f <;> rfl
theorem quo_map {r : Except Sw.Fault (List Nat × Nat)} {acc : List UInt8} {x k m : Nat} : (r.map fun (z : List Nat × Nat) => (x :: z.1, z.2 + k)).map (fun z => (acc ++ Sw.utf8 z.1, z.2 + m)) = r.map fun z => ((acc ++ Sw.utf8One x) ++ Sw.utf8 z.1, z.2 + (k + m)) := by
  cases r with
  | error e => rfl
  | ok z =>
    show Except.ok (acc ++ (Sw.utf8One x ++ Sw.utf8 z.1), z.2 + k + m) = Except.ok ((acc ++ Sw.utf8One x) ++ Sw.utf8 z.1, z.2 + (k + m))
    rw [List.append_assoc, Nat.add_assoc]
theorem num_iff {c : UInt8} : (decide (c.toNat = 10) || numN c.toNat) = decide (c.toNat < 32 ∨ c = 127) := by
  have h7 : c = 127 ↔ c.toNat = 127 := ⟨fun z => by rw [z]; rfl, fun z => UInt8.toNat_inj.mp z⟩
  unfold numN
  rw [Bool.eq_iff_iff, Bool.or_eq_true, Bool.or_eq_true, decide_eq_true_eq, decide_eq_true_eq, decide_eq_true_eq, decide_eq_true_eq, h7]
  omega
section
variable {P : Program} {w : World} {K : PySem.W.Frag} {mg : Str → Option Value} {base : Heap} {CF CR fFI : Addr}
theorem scXQ : FnScope ["reader", "row", "byte"] ["reader"] (defScope sXQ) := ⟨rfl, rfl, rfl, by decide +kernel, rfl, by decide +kernel, by decide +kernel⟩
theorem ok_XQ {f fSB fRG fXK fXL fIU : Addr} {fd fdS fdG fdK fdL fdU fdI : FuncData} (F : Fun K "read_quoted" "read_quoted" sXQ f fd) (T : TxR K mg CF CR fFI) (FI : Fun K "__init__" "Fault.__init__" sFI fFI fdI) (bI : Binds K fdI ["self", "kind", "place"] []) (kq : GI mg "QUOTE" 34) (kb : GI mg "BACKSLASH" 92) (kl : GI mg "LINE_FEED" 10)
    (GS : FnOk P w K mg base (CXF P w) 3 fSB fdS ["self"] (spSB K CF CR)) (bS : Binds K fdS ["self"] []) (mS : Meth K CR "see_byte" fSB)
    (GG : FnOk P w K mg base (CXF P w) 4 fRG fdG ["self", "sign"] (spRG K CF CR)) (bG : Binds K fdG ["self", "sign"] []) (mG : Meth K CR "read_sign" fRG)
    (GK : FnOk P w K mg base (CXF P w) 7 fXK fdK ["reader"] (spR1 K CF CR behindAt)) (bK : Binds K fdK ["reader"] []) (kK : PySem.W.keepIn K (.ref fXK) = true) (mK : mg "read_behind_backslash" = some (.ref fXK))
    (GL : FnOk P w K mg base (CXF P w) 5 fXL fdL ["reader"] (spR2 K CF CR 1 scalAt)) (bL : Binds K fdL ["reader"] []) (kL : PySem.W.keepIn K (.ref fXL) = true) (mL : mg "read_scalar" = some (.ref fXL))
    (GU : FnOk P w K mg base CX0 1 fIU fdU ["scalar"] spNN) (bU : Binds K fdU ["scalar"] []) (kU : PySem.W.keepIn K (.ref fIU) = true) (mU : mg "is_numbered" = some (.ref fIU)) :
    FnOk P w K mg base (CXF P w) 8 f fd ["reader"] (spR2 K CF CR 1 quoteAt) := by
  have GI : FnOk P w K mg base CX0 1 fFI fdI ["self", "kind", "place"] (spXI CF) := ok_FI FI T
  refine okX F scXQ (fun vs H Q E h => ?_) (fun cdv A outer s H vs Q E hr h => ?_)
  · obtain ⟨r, a, p, bs, rfl, _⟩ := h
    rfl
  · obtain ⟨r, a, p, bs, rfl, ⟨dx, hr1⟩, hs, hp, hz, q⟩ := h
    have hr1' : Room 1 _ := hr.mono (by decide)
    have hr2 : Room 2 _ := hr.mono (by decide)
    have hr3 : Room 3 _ := hr.mono (by decide)
    have hr4 : Room 4 _ := hr.mono (by decide)
    have hr5 : Room 5 _ := hr.mono (by decide)
    refine ⟨_, pss_cons (ps_expr (pe_meth (pv 0) T.cR mG GG hr4 bG .nil passX (pa_cons (pgi kq rfl) pa_nil)))
      (pss_cons (ps_set (i := 1) scXQ.nd rfl (Or.inl rfl) (pe_lst pa_nil))
      (pss_cons (ps_set (i := 2) scXQ.nd rfl (Or.inl rfl) (pe_meth0 (pv 0) T.cR mS GS hr3 bS .nil passX))
      (pss_cons (ps_while PassesOwn.leaving (pt_cmpR op_ne (pv 2) (pgi kq rfl) (nomark _))
        (pss_cons (ps_if (pt_cmpR op_eq (pv 2) (pgi kb rfl) (nomark _))
          (pss_one (ps_expr (pe_bm PySem.F.plainAttrs_list PySem.F.slot_list_append PySem.F.type_list_append mt_append (pv 1) (pa_cons (pe_call GK hr rfl mK kK bK .nil passX (pa_cons (pv 0) pa_nil)) pa_nil))))
          (pss_one (ps_if (PW.pt (pw_or (pt_cmpR op_eq (pv 2) (pgi kl rfl) (nomark _)) (pw_or1 (pt_val (pe_call GU hr1' rfl mU kU bU .nil pass0 (pa_cons (pv 2) pa_nil))))))
            (pss_one (ps_raise T.xc GI bI hr2 flies_cx rfl rfl T.mF (pa_cons (pgi T.e2 rfl) (pa_cons (pe_fld (pv 0) rfl) pa_nil))))
            (pss_one (ps_expr (pe_bm PySem.F.plainAttrs_list PySem.F.slot_list_extend PySem.F.type_list_extend mt_extend (pv 1) (pa_cons (pe_call GL hr5 rfl mL kL bL .nil passX (pa_cons (pv 0) pa_nil)) pa_nil)))))))
        (pss_one (ps_set (i := 2) scXQ.nd rfl (Or.inl rfl) (pe_meth0 (pv 0) T.cR mS GS hr3 bS .nil passX)))))
      (pss_cons (ps_expr (pe_meth (pv 0) T.cR mG GG hr4 bG .nil passX (pa_cons (pgi kq rfl) pa_nil)))
      (pss_one (ps_ret (pv 1))))))), ?_⟩
    unfold quoteAt at q
    refine ⟨_, rfl, r, dx, _, rfl, hr1, rf_no a p (by decide +kernel) (by decide +kernel), r, a, p, bs, 34, rfl, ⟨dx, hr1⟩, hs, hp, ?_⟩
    cases e1 : Sw.just p [34] (bs.drop p) with
    | error e =>
      rw [e1] at q
      exact q
    | ok u =>
      rw [e1] at q
      dsimp only at q
      rintro H1 ⟨d1, h1⟩ k1
      have hp1 : p + 1 ≤ bs.length := by
        cases eb : bs[p]? with
        | none =>
          rw [(drop_end eb hp).1] at e1
          cases e1
        | some d => exact (List.getElem?_eq_some_iff.mp eb).1
      have hs1 : SqL K H1 a (bs.map bv) := sq_kp hs k1 hr1
      rw [List.drop_drop] at q
      refine ⟨(by show 0 ≤ sizeLine; decide), fun x hx => ?_⟩
      have hxr : x ≠ r := fun z => by
        rw [z, h1] at hx
        cases hx
      have hxH : H x = none := by
        cases e : H x with
        | none => rfl
        | some o =>
          have := k1 _ _ e hxr
          rw [hx] at this
          cases this
      generalize hF : (Sw.quotedAt ((bs.drop p).length + 1) (p + 1) (bs.drop (p + 1))).map (fun (z : List Nat × Nat) => (Sw.utf8 z.1, z.2 + 1)) = res at q
      have hF : res = (Sw.quotedAt ((bs.drop p).length + 1) (p + 1) (bs.drop (p + 1))).map (fun (z : List Nat × Nat) => ([] ++ Sw.utf8 z.1, z.2 + (p + 1 - p))) := by
        rw [← hF, Nat.add_sub_cancel_left]
        rfl
      generalize hH2 : upd H1 x (.lst []) = H2
      have hx2 : H2 x = some (.lst (([] : List UInt8).map bv)) := by rw [← hH2]; exact upd_same
      have k2 : Kp H1 H2 r := fun b o e _ => by rw [← hH2]; exact (upd_ne (ne_of_none e hx)).trans e
      have h2 : H2 r = some (.ins CR d1 (rf a (p + 1))) := by rw [← hH2]; exact (upd_ne (Ne.symm hxr)).trans h1
      have hs2 := sq_kp hs1 k2 h1
      refine ⟨_, rfl, r, d1, _, rfl, h2, rf_no a _ (by decide +kernel) (by decide +kernel), r, a, p + 1, bs, rfl, ⟨d1, h2⟩, hs2, ?_⟩
      have bad : ∀ (f n : Nat) (acc : List UInt8) (m : Nat), bs[n]? = none → n ≤ bs.length → res = (Sw.quotedAt f n (bs.drop n)).map (fun (z : List Nat × Nat) => (acc ++ Sw.utf8 z.1, z.2 + m)) → Err E CF (.int 1) (.int (bs.length : Int)) := fun f n acc m e hn er => by
        obtain ⟨d1, d2⟩ := drop_end e hn
        rw [d1, quo_nil] at er
        have er : res = .error ⟨1, n⟩ := er
        rw [er, d2] at q
        exact q
      cases eb0 : bs[p + 1]? with
      | none => exact bad _ _ _ _ eb0 hp1 hF
      | some c0 =>
      refine ⟨fun m σ G => ∃ (c : UInt8) (acc : List UInt8) (n f : Nat), σ = [some (.ref r), some (.ref x), some (bv c)] ∧ bs[n]? = some c ∧ RdAt CR G r a n ∧ Kp H1 G r ∧ G x = some (.lst (acc.map bv)) ∧ acc.length + (p + 1) ≤ n ∧ m = bs.length - n ∧ bs.length - n + 1 ≤ f ∧
        res = (Sw.quotedAt f n (bs.drop n)).map fun z => (acc ++ Sw.utf8 z.1, z.2 + (n - p)), ⟨bs.length - (p + 1), c0, [], p + 1, (bs.drop p).length + 1, rfl, eb0, ⟨d1, h2⟩, k2, hx2, by show 0 + (p + 1) ≤ p + 1; omega, rfl, by rw [List.length_drop]; omega, hF⟩, ?_⟩
      rintro m σ G ⟨c, acc, n, f, rfl, eb, ⟨dg, hg⟩, kG, hGx, hal, hm, hf, er⟩
      have hsG : SqL K G a (bs.map bv) := sq_kp hs1 kG h1
      obtain ⟨f, rfl⟩ : ∃ k, f = k + 1 := ⟨f - 1, by omega⟩
      have hlt := (List.getElem?_eq_some_iff.mp eb).1
      have ed := drop_at eb
      rw [ed, quo_cons] at er
      refine ⟨_, rfl, rfl, _, rfl, ?_⟩
      rw [show (V.int 34) = bv 34 from rfl, bv_inj]
      by_cases hc : c = 34
      · rw [decide_eq_true hc]
        rw [if_pos hc] at er
        subst hc
        refine iteF ⟨_, rfl, r, dg, _, rfl, hg, rf_no a n (by decide +kernel) (by decide +kernel), r, a, n, bs, 34, rfl, ⟨dg, hg⟩, hsG, Nat.le_of_lt hlt, ?_⟩
        rw [ed, just_cons]
        have e0 : ∀ (n : Nat) (l : List UInt8), Sw.just n [] l = .ok () := fun n l => by unfold Sw.just; rfl
        rw [e0]
        intro G' rd' k'
        have er : res = .ok (acc ++ [], 1 + (n - p)) := er
        rw [er, List.append_nil] at q
        have q : ∀ (t : Addr) (H' : Hp), RdAt CR H' r a (p + (1 + (n - p))) → Kp H H' r → H t = none → H' t = some (.lst (acc.map bv)) → p + (1 + (n - p)) ≤ bs.length → acc.length ≤ 1 * (1 + (n - p)) → Q (.ref t) H' := q
        rw [show p + (1 + (n - p)) = n + 1 by omega] at q
        exact ⟨_, rfl, q x G' rd' ((k1.trans kG).trans k') hxH (k' _ _ hGx hxr) hlt (by omega)⟩
      rw [decide_eq_false hc]
      rw [if_neg hc] at er
      refine iteT ⟨_, fun σ' G' h => h, ?_⟩
      refine ⟨_, rfl, rfl, _, rfl, ?_⟩
      rw [show (V.int 92) = bv 92 from rfl, bv_inj]
      by_cases hb : c = 92
      · rw [decide_eq_true hb]
        rw [if_pos hb] at er
        subst hb
        refine iteT ⟨_, rfl, .inl ⟨rfl, _, SqL.of hGx⟩, _, rfl, r, a, n, bs, rfl, ⟨dg, hg⟩, hsG, Nat.le_of_lt hlt, ?_⟩
        rw [ed]
        unfold behindAt
        rw [just_cons]
        have e0 : ∀ (n : Nat) (l : List UInt8), Sw.just n [] l = .ok () := fun n l => by unfold Sw.just; rfl
        rw [e0]
        show Out E CF (match Sw.escapeAt (n + 1) (bs.drop (n + 1)) with
          | .error e => .error e
          | .ok (x, k) => .ok (x, k + 1) : Except Sw.Fault (Nat × Nat)) _
        cases e2 : Sw.escapeAt (n + 1) (bs.drop (n + 1)) with
        | error e =>
          rw [e2] at er
          have er : res = .error e := er
          rw [er] at q
          exact q
        | ok y =>
          obtain ⟨u, k⟩ := y
          rw [e2] at er
          dsimp only at er
          have hu := esc_lt e2
          rintro G' ⟨dg', hg'⟩ k' l'
          have hx' : G' x = some (.lst (acc.map bv)) := k' _ _ hGx hxr
          have hsG' := sq_kp hsG k' hg
          have l' : n + (k + 1) ≤ bs.length := l'
          refine ⟨x, _, _, rfl, rfl, hx', ?_, ?_⟩
          · rw [List.length_map, sizeLine_eq]
            omega
          generalize hG2 : upd G' x (.lst (acc.map bv ++ [V.int (u : Int)])) = G2
          have hx2' : G2 x = some (.lst ((acc ++ Sw.utf8One u).map bv)) := by
            rw [← hG2, upd_same, one_low hu, List.map_append]
            show _ = some (HO.lst (acc.map bv ++ [bv (UInt8.ofNat u)]))
            rw [bv_of (by omega)]
          have hg2 : G2 r = some (.ins CR dg' (rf a (n + (k + 1)))) := by rw [← hG2]; exact (upd_ne (Ne.symm hxr)).trans hg'
          have kx : Kp H1 G2 r := fun b o e n => by
            rw [← hG2, upd_ne (fun z => by rw [z, hx] at e; cases e)]
            exact k' _ _ (kG _ _ e n) n
          have hs3 := sq_kp hs1 kx h1
          refine ⟨_, rfl, r, dg', _, rfl, hg2, rf_no a _ (by decide +kernel) (by decide +kernel), r, a, n + (k + 1), bs, rfl, ⟨dg', hg2⟩, hs3, ?_⟩
          have er2 : res = (Sw.quotedAt f (n + (k + 1)) (bs.drop (n + (k + 1)))).map fun (z : List Nat × Nat) => ((acc ++ Sw.utf8One u) ++ Sw.utf8 z.1, z.2 + (n + (k + 1) - p)) := by
            rw [er, List.drop_drop, show n + 1 + k = n + (k + 1) by omega]
            have := quo_map (r := Sw.quotedAt f (n + (k + 1)) (bs.drop (n + (k + 1)))) (acc := acc) (x := u) (k := 1 + k) (m := n - p)
            rw [show 1 + k + (n - p) = n + (k + 1) - p by omega] at this
            rw [← this]
            simp only [Nat.add_assoc]
          cases eb' : bs[n + (k + 1)]? with
          | none => exact bad _ _ _ _ eb' l' er2
          | some c' =>
            refine ⟨bs.length - (n + (k + 1)), by omega, c', acc ++ Sw.utf8One u, n + (k + 1), f, rfl, eb', ⟨dg', hg2⟩, kx, hx2', ?_, rfl, by omega, er2⟩
            rw [List.length_append, one_low hu]
            show acc.length + 1 + (p + 1) ≤ _
            omega
      rw [decide_eq_false hb]
      rw [if_neg hb] at er
      refine iteF ?_
      refine if_or (a := decide (c.toNat = 10)) (b := numN c.toNat) (fun Q' h => ⟨_, rfl, rfl, _, rfl, ?_⟩) (fun _ Q' h => ⟨_, rfl, c.toNat, rfl, _, rfl, h⟩) ?_
      · rw [show decide (bv c = V.int 10) = decide (c.toNat = 10) by
          unfold bv
          rw [dint]
          exact decide_eq_decide.mpr (by omega)]
        exact h
      rw [num_iff]
      by_cases hn : c.toNat < 32 ∨ c = 127
      · rw [decide_eq_true hn]
        rw [if_pos hn] at er
        have er : res = .error ⟨2, n⟩ := er
        rw [er] at q
        exact iteT ⟨_, rfl, r, CR, dg, _, _, rfl, hg, T.cR, T.nPl, rf_place a n, _, _, rfl, q⟩
      · rw [decide_eq_false hn]
        rw [if_neg hn] at er
        refine iteF ⟨_, rfl, .inl ⟨rfl, _, SqL.of hGx⟩, _, rfl, r, a, n, bs, rfl, ⟨dg, hg⟩, hsG, Nat.le_of_lt hlt, hz, ?_⟩
        rw [ed]
        unfold scalAt
        cases es : Sw.scalarAt n (c :: bs.drop (n + 1)) with
        | error e =>
          rw [es] at er
          have er : res = .error (if e = n + (c :: bs.drop (n + 1)).length then ⟨1, e⟩ else ⟨5, e⟩) := er
          rw [er] at q
          exact q
        | ok y =>
          obtain ⟨u, sfx⟩ := y
          rw [es] at er
          dsimp only at er ⊢
          obtain ⟨en, _⟩ := Pm.scalar_enc es
          have hll : (c :: bs.drop (n + 1)).length = bs.length - n := by rw [List.length_cons, List.length_drop]; omega
          have hul : (Sw.utf8One u).length + sfx.length = bs.length - n := by
            have := congrArg List.length en
            rw [List.length_append, hll] at this
            omega
          have hu1 := Pm.one_len u
          rw [hll] at er ⊢
          have hkk : bs.length - n - sfx.length = (Sw.utf8One u).length := by omega
          rw [hkk] at er ⊢
          have esf : sfx = bs.drop (n + (Sw.utf8One u).length) := by
            rw [← List.drop_drop, ed, en, List.drop_left]
          rw [esf] at er
          have er2 : res = (Sw.quotedAt f (n + (Sw.utf8One u).length) (bs.drop (n + (Sw.utf8One u).length))).map fun (z : List Nat × Nat) => ((acc ++ Sw.utf8One u) ++ Sw.utf8 z.1, z.2 + (n + (Sw.utf8One u).length - p)) := by
            rw [er, quo_map, show (Sw.utf8One u).length + (n - p) = n + (Sw.utf8One u).length - p by omega]
          rintro t G' ⟨dg', hg'⟩ k' ht ht' l' _
          have l' : n + (Sw.utf8One u).length ≤ bs.length := l'
          have hx' : G' x = some (.lst (acc.map bv)) := k' _ _ hGx hxr
          refine ⟨x, t, _, _, rfl, rfl, hx', ht', ?_, ?_⟩
          · rw [List.length_map, List.length_map, sizeLine_eq]
            omega
          generalize hG2 : upd G' x (.lst (acc.map bv ++ (Sw.utf8One u).map bv)) = G2
          have hx2' : G2 x = some (.lst ((acc ++ Sw.utf8One u).map bv)) := by
            rw [← hG2, upd_same, List.map_append]
          have hg2 : G2 r = some (.ins CR dg' (rf a (n + (Sw.utf8One u).length))) := by rw [← hG2]; exact (upd_ne (Ne.symm hxr)).trans hg'
          have kx : Kp H1 G2 r := fun b o e n => by
            rw [← hG2, upd_ne (fun z => by rw [z, hx] at e; cases e)]
            exact k' _ _ (kG _ _ e n) n
          have hs3 := sq_kp hs1 kx h1
          refine ⟨_, rfl, r, dg', _, rfl, hg2, rf_no a _ (by decide +kernel) (by decide +kernel), r, a, n + (Sw.utf8One u).length, bs, rfl, ⟨dg', hg2⟩, hs3, ?_⟩
          cases eb' : bs[n + (Sw.utf8One u).length]? with
          | none => exact bad _ _ _ _ eb' l' er2
          | some c' =>
            refine ⟨bs.length - (n + (Sw.utf8One u).length), by omega, c', acc ++ Sw.utf8One u, n + (Sw.utf8One u).length, f, rfl, eb', ⟨dg', hg2⟩, kx, hx2', ?_, rfl, by omega, er2⟩
            rw [List.length_append]
            omega
end
end L2.J

set_option Elab.async false
set_option linter.all false
set_option maxRecDepth 100000
set_option maxHeartbeats 2000000
namespace L2.J
open PySem PySem.Spec PyProof.Rows L2.XC
/-! ### numbers in tens -/
def passAt (neg : Bool) (p : Nat) (b : List UInt8) : Except Sw.Fault Nat := match b with
  | [] => .error ⟨1, p⟩
  | c :: r => if Sw.isDigit c = false ∨ (neg = true ∧ c = 48) then .error ⟨2, p⟩ else if c = 48 then (match r with
      | d :: _ => if Sw.isDigit d = true then .error ⟨2, p + 1⟩ else .ok 1
      | [] => .ok 1) else .ok (1 + (r.takeWhile Sw.isDigit).length)
def tval (m : Nat) (l : List UInt8) : Nat := l.foldl (fun (m : Nat) (x : UInt8) => 10 * m + (x.toNat - 48)) m
def negB (b : List UInt8) : Bool := b.head? == some 45
def tensAt (start p : Nat) (b : List UInt8) : Except Sw.Fault (Int × Nat) := match passAt (negB b) (p + (negB b).toNat) (b.drop (negB b).toNat) with
  | .error e => .error e
  | .ok k => if 9865 < k then .error ⟨4, start⟩ else .ok (if negB b = true then -((tval 0 ((b.drop (negB b).toNat).take k) : Nat) : Int) else ((tval 0 ((b.drop (negB b).toNat).take k) : Nat) : Int), (negB b).toNat + k)
def numAt (p : Nat) (b : List UInt8) : Except Sw.Fault (List UInt8 × Nat) := match Sw.figuresAt p b with
  | .error e => .error e
  | .ok (z, n) => if 256 ^ Sw.NUMBER ≤ z.natAbs then .error ⟨4, p⟩ else .ok (2 :: Sw.numberBytes z, n)
theorem takeW (l : List UInt8) (g : UInt8 → Bool) : l.takeWhile g = l.take (l.takeWhile g).length := by
  induction l with
  | nil => rfl
  | cons c l ih =>
    rw [List.takeWhile_cons]
    split
    · rw [List.length_cons, List.take_succ_cons, ← ih]
    · rfl
theorem fig_pass (p : Nat) (b : List UInt8) : Sw.figuresAt p b = match passAt (negB b) (p + (negB b).toNat) (b.drop (negB b).toNat) with
    | .error e => .error e
    | .ok k => .ok (if negB b = true then -((tval 0 ((b.drop (negB b).toNat).take k) : Nat) : Int) else ((tval 0 ((b.drop (negB b).toNat).take k) : Nat) : Int), (negB b).toNat + k) := by
  have main : ∀ (neg : Bool), (b.head? = some 45 ↔ neg = true) → (match b.drop (if neg = true then 1 else 0) with
      | [] => .error ⟨1, p + (if neg = true then 1 else 0)⟩
      | c :: r => if Sw.isDigit c = false then .error ⟨2, p + (if neg = true then 1 else 0)⟩ else if c = 48 then (if neg = true then .error ⟨2, p + (if neg = true then 1 else 0)⟩ else match r with
          | d :: _ => if Sw.isDigit d = true then .error ⟨2, p + 1⟩ else .ok (0, 1)
          | [] => .ok (0, 1))
        else .ok (if neg = true then -((tval 0 ((c :: r).takeWhile Sw.isDigit) : Nat) : Int) else ((tval 0 ((c :: r).takeWhile Sw.isDigit) : Nat) : Int), (if neg = true then 1 else 0) + ((c :: r).takeWhile Sw.isDigit).length) : Except Sw.Fault (Int × Nat)) = match passAt neg (p + neg.toNat) (b.drop neg.toNat) with
    | .error e => .error e
    | .ok k => .ok (if neg = true then -((tval 0 ((b.drop neg.toNat).take k) : Nat) : Int) else ((tval 0 ((b.drop neg.toNat).take k) : Nat) : Int), neg.toNat + k) := by
    intro neg _
    rw [show (if neg = true then 1 else 0) = neg.toNat by cases neg <;> rfl]
    generalize b.drop neg.toNat = b'
    unfold passAt
    cases b' with
    | nil => rfl
    | cons c r =>
      dsimp only
      by_cases h1 : Sw.isDigit c = false
      · rw [if_pos h1, if_pos (.inl h1)]
      · rw [if_neg h1]
        have hd : Sw.isDigit c = true := by
          cases e : Sw.isDigit c with
          | true => rfl
          | false => exact absurd e h1
        by_cases h2 : c = 48
        · rw [if_pos h2]
          subst h2
          cases neg with
          | true =>
            rw [if_pos rfl, if_pos (.inr ⟨rfl, rfl⟩)]
          | false =>
            rw [if_neg (by decide), if_neg (by decide), if_pos rfl]
            cases r with
            | nil => rfl
            | cons d t =>
              dsimp only
              by_cases h3 : Sw.isDigit d = true
              · rw [if_pos h3, if_pos h3]; rfl
              · rw [if_neg h3, if_neg h3]; rfl
        · rw [if_neg h2, if_neg (show ¬ (Sw.isDigit c = false ∨ neg = true ∧ c = 48) from fun z => z.elim h1 (fun y => h2 y.2)), if_neg h2]
          dsimp only
          have et : (c :: r).takeWhile Sw.isDigit = c :: r.takeWhile Sw.isDigit := by rw [List.takeWhile_cons, if_pos hd]
          have e2 : (c :: r).take (1 + (r.takeWhile Sw.isDigit).length) = (c :: r).takeWhile Sw.isDigit := by
            rw [et, Nat.add_comm, List.take_succ_cons, ← takeW]
          rw [e2, show ((c :: r).takeWhile Sw.isDigit).length = 1 + (r.takeWhile Sw.isDigit).length by rw [et, List.length_cons, Nat.add_comm]]
  have hi : b.head? = some 45 ↔ negB b = true := by
    unfold negB
    rw [beq_iff_eq]
  rw [← main (negB b) hi]
  unfold Sw.figuresAt
  dsimp only
  by_cases h : b.head? = some 45
  · have hb := hi.mp h
    rw [hb]
    simp only [h, if_true]
    rfl
  · have hb : negB b = false := by
      cases e : negB b with
      | false => rfl
      | true => exact absurd (hi.mpr e) h
    rw [hb]
    simp only [h, if_false, Bool.false_eq_true]
    rfl
theorem tval_ge : ∀ (l : List UInt8) (m : Nat), m * 10 ^ l.length ≤ tval m l
  | [], m => by show m * 10 ^ 0 ≤ m; omega
  | c :: l, m => by
    have ih := tval_ge l (10 * m + (c.toNat - 48))
    show m * 10 ^ (l.length + 1) ≤ tval (10 * m + (c.toNat - 48)) l
    rw [Nat.pow_succ]
    have : m * (10 ^ l.length * 10) ≤ (10 * m + (c.toNat - 48)) * 10 ^ l.length := by
      rw [Nat.add_mul, Nat.mul_comm (10 ^ l.length) 10, ← Nat.mul_assoc, Nat.mul_comm m 10]
      exact Nat.le_add_right _ _
    omega
theorem digit_iff {c : UInt8} : Sw.isDigit c = true ↔ 48 ≤ c.toNat ∧ c.toNat ≤ 57 := by
  unfold Sw.isDigit
  rw [Bool.and_eq_true, decide_eq_true_eq, decide_eq_true_eq]
theorem tval_lt : ∀ (l : List UInt8) (m : Nat), (∀ c ∈ l, Sw.isDigit c = true) → tval m l < (m + 1) * 10 ^ l.length
  | [], m, _ => by show m < (m + 1) * 10 ^ 0; omega
  | c :: l, m, h => by
    have ih := tval_lt l (10 * m + (c.toNat - 48)) fun d hd => h d (by simp [hd])
    have hc := digit_iff.mp (h c (by simp))
    show tval (10 * m + (c.toNat - 48)) l < (m + 1) * 10 ^ (l.length + 1)
    have : (10 * m + (c.toNat - 48) + 1) * 10 ^ l.length ≤ (m + 1) * 10 ^ (l.length + 1) := by
      rw [Nat.pow_succ, Nat.mul_comm (10 ^ l.length) 10, ← Nat.mul_assoc]
      exact Nat.mul_le_mul_right _ (by omega)
    omega
/-- what was passed: figures alone, the first no nought if there are several -/
theorem pass_all {neg : Bool} {p k : Nat} {b : List UInt8} (h : passAt neg p b = .ok k) : (∀ c ∈ b.take k, Sw.isDigit c = true) ∧ 1 ≤ k ∧ k ≤ b.length ∧ (2 ≤ k → ∃ c r, b = c :: r ∧ 49 ≤ c.toNat) := by
  cases b with
  | nil => cases h
  | cons c r =>
    unfold passAt at h
    dsimp only at h
    by_cases h1 : Sw.isDigit c = false ∨ (neg = true ∧ c = 48)
    · rw [if_pos h1] at h; cases h
    · rw [if_neg h1] at h
      have hd : Sw.isDigit c = true := by
        cases e : Sw.isDigit c with
        | true => rfl
        | false => exact absurd (.inl e) h1
      have one : (∀ x ∈ (c :: r).take 1, Sw.isDigit x = true) := by
        intro x hx
        rw [List.take_succ_cons, List.take_zero, List.mem_singleton] at hx
        rw [hx]; exact hd
      by_cases h2 : c = 48
      · rw [if_pos h2] at h
        cases r with
        | nil => cases h; exact ⟨one, Nat.le_refl _, by simp, fun z => absurd z (by decide)⟩
        | cons d t =>
          dsimp only at h
          by_cases h3 : Sw.isDigit d = true
          · rw [if_pos h3] at h; cases h
          · rw [if_neg h3] at h; cases h; exact ⟨one, Nat.le_refl _, by simp, fun z => absurd z (by decide)⟩
      · rw [if_neg h2] at h
        cases h
        refine ⟨?_, by omega, ?_, fun _ => ⟨c, r, rfl, ?_⟩⟩
        · rw [Nat.add_comm, List.take_succ_cons, ← takeW]
          intro x hx
          rcases List.mem_cons.mp hx with rfl | hx
          · exact hd
          · exact (List.all_eq_true.mp (List.all_takeWhile (l := r) (p := Sw.isDigit))) x hx
        · rw [List.length_cons]
          have := (List.takeWhile_prefix (l := r) Sw.isDigit).length_le
          omega
        · have := digit_iff.mp hd
          have : ¬ c.toNat = 48 := fun z => h2 (UInt8.toNat_inj.mp z)
          omega
theorem big10 : 256 ^ Sw.NUMBER ≤ 10 ^ 9865 := by decide +kernel
theorem tval_big {neg : Bool} {p k : Nat} {b : List UInt8} (h : passAt neg p b = .ok k) (hk : 9865 < k) : 256 ^ Sw.NUMBER ≤ tval 0 (b.take k) := by
  obtain ⟨h1, h2, h3, h4⟩ := pass_all h
  obtain ⟨c, r, rfl, hc⟩ := h4 (by omega)
  obtain ⟨k, rfl⟩ : ∃ j, k = j + 1 := ⟨k - 1, by omega⟩
  rw [List.take_succ_cons]
  show _ ≤ tval (10 * 0 + (c.toNat - 48)) (r.take k)
  have g := tval_ge (r.take k) (10 * 0 + (c.toNat - 48))
  have hl : (r.take k).length = k := by rw [List.length_take]; rw [List.length_cons] at h3; omega
  rw [hl] at g
  have g2 : 1 * 10 ^ k ≤ (10 * 0 + (c.toNat - 48)) * 10 ^ k := Nat.mul_le_mul_right _ (by omega)
  have g3 : 10 ^ 9865 ≤ 10 ^ k := Nat.pow_le_pow_right (by decide) (by omega)
  rw [Nat.one_mul] at g2
  exact Nat.le_trans big10 (Nat.le_trans g3 (Nat.le_trans g2 g))
theorem amount_le : ∀ (k n : Nat), n < 256 ^ k → Sw.amountLength n ≤ k
  | 0, n, h => by
    have : n = 0 := by rw [Nat.pow_zero] at h; omega
    subst this
    unfold Sw.amountLength
    rw [if_pos rfl]
    exact Nat.le_refl 0
  | k + 1, n, h => by
    unfold Sw.amountLength
    by_cases h0 : n = 0
    · rw [if_pos h0]; exact Nat.zero_le _
    · rw [if_neg h0]
      have := amount_le k (n / 256) (by rw [Nat.pow_succ] at h; exact Nat.div_lt_of_lt_mul (by rw [Nat.mul_comm]; exact h))
      omega
theorem tval_amount {neg : Bool} {p k : Nat} {b : List UInt8} (h : passAt neg p b = .ok k) : Sw.amountLength (tval 0 (b.take k)) ≤ k := by
  obtain ⟨h1, h2, h3, h4⟩ := pass_all h
  have g := tval_lt (b.take k) 0 h1
  have hl : (b.take k).length = k := by rw [List.length_take]; omega
  rw [hl, Nat.zero_add, Nat.one_mul] at g
  exact amount_le k _ (Nat.lt_of_lt_of_le g (Nat.pow_le_pow_left (by decide) k))
end L2.J

set_option Elab.async false
set_option linter.all false
set_option maxRecDepth 100000
set_option maxHeartbeats 2000000
namespace L2.J
open PySem PySem.Spec PyProof.Rows L2.XC
def spXP (K : PySem.W.Frag) (CF CR : Addr) : Sp := fun vs H Q E => ∃ (r a : Addr) (p : Nat) (neg : Bool) (bs : List UInt8), vs = [.ref r, .bl neg] ∧ RdAt CR H r a p ∧ SqL K H a (bs.map bv) ∧ p ≤ bs.length ∧
  Out E CF (passAt neg p (bs.drop p)) fun k => ∀ H' : Hp, RdAt CR H' r a (p + k) → Kp H H' r → p + k ≤ bs.length → Q .non H'
def spXS (K : PySem.W.Frag) (CF CR : Addr) : Sp := fun vs H Q E => ∃ (r a : Addr) (p start : Nat) (bs : List UInt8), vs = [.ref r, .int (start : Int)] ∧ RdAt CR H r a p ∧ SqL K H a (bs.map bv) ∧ p ≤ bs.length ∧ bs.length ≤ 65536 ∧
  Out E CF (tensAt start p (bs.drop p)) fun (x : Int × Nat) => ∀ H' : Hp, RdAt CR H' r a (p + x.2) → Kp H H' r → p + x.2 ≤ bs.length → Q (.int x.1) H'
def restT (p n : Nat) (c : UInt8) (b : List UInt8) : Except Sw.Fault Nat := if c = 48 then (match b with
    | d :: _ => if Sw.isDigit d = true then .error ⟨2, n⟩ else .ok (n - p)
    | [] => .ok (n - p)) else .ok (n - p + (b.takeWhile Sw.isDigit).length)
theorem tval_snoc (m : Nat) (l : List UInt8) (c : UInt8) : tval m (l ++ [c]) = 10 * tval m l + (c.toNat - 48) := by
  unfold tval
  rw [List.foldl_append]
  rfl
theorem if_join {t rest : TS} {D : Ends} {σ : St} {H : Hp} {b : Bool} {i : Nat} (I : Hp → Prop) (hσ : σ[i]? = some (some (.bl b))) (go : ∀ H1, I H1 → rest D σ H1)
    (ht : b = true → (∀ H1, I H1 → rest D σ H1) → t { D with nx := rest D } σ H) (hf : b = false → I H) : tSeq (tIfS (tB (tVar i)) t tNext) rest D σ H := by
  refine ⟨_, hσ, b, rfl, ?_⟩
  cases b with
  | true => exact iteT (ht rfl go)
  | false => exact iteF (go H (hf rfl))
section
variable {P : Program} {w : World} {K : PySem.W.Frag} {mg : Str → Option Value} {base : Heap} {CF CR fFI : Addr}
theorem scXP : FnScope ["reader", "below_0", "first"] ["reader", "below_0"] (defScope sXP) := ⟨rfl, rfl, rfl, by decide +kernel, rfl, by decide +kernel, by decide +kernel⟩
theorem ok_XP {f fSB fPB fI1 : Addr} {fd fdS fdB fd1 fdI : FuncData} (F : Fun K "pass_tens" "pass_tens" sXP f fd) (T : TxR K mg CF CR fFI) (FI : Fun K "__init__" "Fault.__init__" sFI fFI fdI) (bI : Binds K fdI ["self", "kind", "place"] []) (kn : GI mg "NOUGHT" 48)
    (GS : FnOk P w K mg base (CXF P w) 3 fSB fdS ["self"] (spSB K CF CR)) (bS : Binds K fdS ["self"] []) (mS : Meth K CR "see_byte" fSB)
    (GB : FnOk P w K mg base (CXF P w) 3 fPB fdB ["self", "how_many"] (spPB K CF CR)) (bB : Binds K fdB ["self", "how_many"] []) (mB : Meth K CR "pass_bytes" fPB)
    (G1 : FnOk P w K mg base CX0 1 fI1 fd1 ["byte"] (spB1 Sw.isDigit)) (b1 : Binds K fd1 ["byte"] []) (kk1 : PySem.W.keepIn K (.ref fI1) = true) (m1 : mg "is_ten" = some (.ref fI1)) :
    FnOk P w K mg base (CXF P w) 4 f fd ["reader", "below_0"] (spXP K CF CR) := by
  have GI : FnOk P w K mg base CX0 1 fFI fdI ["self", "kind", "place"] (spXI CF) := ok_FI FI T
  refine okX F scXP (fun vs H Q E h => ?_) (fun cdv A outer s H vs Q E hr h => ?_)
  · obtain ⟨r, a, p, neg, bs, rfl, _⟩ := h
    rfl
  · obtain ⟨r, a, p, neg, bs, rfl, ⟨dx, hr1⟩, hs, hp, q⟩ := h
    have hr1' : Room 1 _ := hr.mono (by decide)
    have hr2 : Room 2 _ := hr.mono (by decide)
    have hr3 : Room 3 _ := hr.mono (by decide)
    refine ⟨_, pss_cons (ps_set (i := 2) scXP.nd rfl (Or.inl rfl) (pe_meth0 (pv 0) T.cR mS GS hr3 bS .nil passX))
      (pss_cons (ps_if (PW.pt (pw_or (pt_not (pt_val (pe_call G1 hr1' rfl m1 kk1 b1 .nil pass0 (pa_cons (pv 2) pa_nil)))) (pw_or1 (PW.pt (pw_and (pt_val (pv 1)) (pw_and1 (pt_cmpR op_eq (pv 2) (pgi kn rfl) (nomark _))))))))
        (pss_one (ps_raise T.xc GI bI hr2 flies_cx rfl rfl T.mF (pa_cons (pgi T.e2 rfl) (pa_cons (pe_fld (pv 0) rfl) pa_nil)))) pss_nil)
      (pss_cons (ps_expr (pe_meth (pv 0) T.cR mB GB hr3 bB .nil passX (pa_cons pe_int pa_nil)))
      (pss_one (ps_while PassesOwn.leaving (PW.pt (pw_and (pt_cmpR op_lt (pe_fld (pv 0) rfl) (pe_callB call_len_seq (by rfl) T.len PySem.boot_len (pa_cons (pe_fld (pv 0) rfl) pa_nil)) (nomark _)) (pw_and1 (pt_val (pe_call G1 hr1' rfl m1 kk1 b1 .nil pass0 (pa_cons (pe_meth0 (pv 0) T.cR mS GS hr3 bS .nil passX) pa_nil))))))
        (pss_cons (ps_if (pt_cmpR op_eq (pv 2) (pgi kn rfl) (nomark _)) (pss_one (ps_raise T.xc GI bI hr2 flies_cx rfl rfl T.mF (pa_cons (pgi T.e2 rfl) (pa_cons (pe_fld (pv 0) rfl) pa_nil)))) pss_nil)
        (pss_one (ps_expr (pe_meth (pv 0) T.cR mB GB hr3 bB .nil passX (pa_cons pe_int pa_nil))))))))), ?_⟩
    refine ⟨_, rfl, r, dx, _, rfl, hr1, rf_no a p (by decide +kernel) (by decide +kernel), r, a, p, bs, rfl, ⟨dx, hr1⟩, hs, ?_⟩
    cases e : bs[p]? with
    | none =>
      obtain ⟨e1, e2⟩ := drop_end e hp
      rw [e1] at q
      have q : Err E CF (.int 1) (.int (p : Int)) := q
      rw [e2] at q
      exact q
    | some c =>
      have hlt := (List.getElem?_eq_some_iff.mp e).1
      have ed := drop_at e
      rw [ed] at q
      have e48 : decide (bv c = V.int 48) = decide (c = 48) := bv_inj (d := 48)
      dsimp only [gName]
      refine seq_or (a := !Sw.isDigit c) (b := (neg && decide (c = 48))) (fun Q' h => ⟨_, rfl, c, rfl, _, rfl, h⟩) (fun _ Q' h => tand_of (a := neg) (b := decide (c = 48)) (fun Q2 h2 => ⟨_, rfl, _, rfl, h2⟩) (fun _ Q2 h2 => ⟨_, rfl, rfl, _, rfl, by rw [e48]; exact h2⟩) h) ?_
      have q : Out E CF (if Sw.isDigit c = false ∨ (neg = true ∧ c = 48) then .error ⟨2, p⟩ else if c = 48 then (match bs.drop (p + 1) with
        | d :: _ => if Sw.isDigit d = true then .error ⟨2, p + 1⟩ else .ok 1
        | [] => .ok 1) else .ok (1 + ((bs.drop (p + 1)).takeWhile Sw.isDigit).length) : Except Sw.Fault Nat) fun k => ∀ H' : Hp, RdAt CR H' r a (p + k) → Kp H H' r → p + k ≤ bs.length → Q .non H' := q
      by_cases h1 : Sw.isDigit c = false ∨ (neg = true ∧ c = 48)
      · rw [if_pos h1] at q
        have hb : (!Sw.isDigit c || (neg && decide (c = 48))) = true := by
          rcases h1 with h | ⟨h, h'⟩
          · rw [h]; rfl
          · rw [h, decide_eq_true h']; cases Sw.isDigit c <;> rfl
        rw [hb]
        exact iteT ⟨_, rfl, r, CR, dx, _, _, rfl, hr1, T.cR, T.nPl, rf_place a p, _, _, rfl, q⟩
      · rw [if_neg h1] at q
        have hd : Sw.isDigit c = true := by
          cases e : Sw.isDigit c with
          | true => rfl
          | false => exact absurd (.inl e) h1
        have hb : (!Sw.isDigit c || (neg && decide (c = 48))) = false := by
          rw [hd]
          cases neg with
          | false => rfl
          | true => rw [decide_eq_false (fun z => h1 (.inr ⟨rfl, z⟩))]; rfl
        rw [hb]
        refine iteF ⟨_, rfl, r, dx, _, rfl, hr1, rf_no a p (by decide +kernel) (by decide +kernel), r, a, p, 1, bs, rfl, ⟨dx, hr1⟩, hs, hp, ?_⟩
        rw [if_neg (by omega)]
        intro H1 rd1 k1
        have q : Out E CF (restT p (p + 1) c (bs.drop (p + 1))) fun k => ∀ H' : Hp, RdAt CR H' r a (p + k) → Kp H H' r → p + k ≤ bs.length → Q .non H' := by
          unfold restT
          rw [Nat.add_sub_cancel_left]
          exact q
        generalize hF : restT p (p + 1) c (bs.drop (p + 1)) = res at q
        refine ⟨fun m σ G => ∃ n : Nat, σ = [some (.ref r), some (.bl neg), some (bv c)] ∧ RdAt CR G r a n ∧ Kp H G r ∧ p + 1 ≤ n ∧ n ≤ bs.length ∧ m = bs.length - n ∧ res = restT p n c (bs.drop n), ⟨bs.length - (p + 1), p + 1, rfl, rd1, k1, Nat.le_refl _, hlt, rfl, hF.symm⟩, ?_⟩
        rintro m σ G ⟨n, rfl, ⟨dg, hg⟩, kG, hn1, hn2, hm, er⟩
        have hsG := sq_kp hs kG hr1
        cases eb : bs[n]? with
        | none =>
          obtain ⟨d1, d2⟩ := drop_end eb hn2
          have er : res = .ok (n - p) := by
            rw [er, d1]
            unfold restT
            by_cases h : c = 48
            · rw [if_pos h]
            · rw [if_neg h]; rfl
          rw [er] at q
          have q : ∀ H' : Hp, RdAt CR H' r a (p + (n - p)) → Kp H H' r → p + (n - p) ≤ bs.length → Q .non H' := q
          rw [show p + (n - p) = n by omega] at q
          refine tand_of (a := false) (b := false) (fun Q' h => ⟨_, rfl, r, CR, dg, _, _, rfl, hg, T.cR, T.nPl, rf_place a n, _, rfl, r, CR, dg, _, _, rfl, hg, T.cR, T.nRow, rf_row a n, a, _, rfl, .inl hsG, _, _, rfl, rfl, _, rfl, ?_⟩) (fun z => by cases z) (iteF (q G ⟨dg, hg⟩ kG hn2))
          rw [List.length_map, decide_eq_false (by omega)]
          exact h
        | some d =>
          have hlt2 := (List.getElem?_eq_some_iff.mp eb).1
          have ed2 := drop_at eb
          rw [ed2] at er
          refine tand_of (a := true) (b := Sw.isDigit d) (fun Q' h => ⟨_, rfl, r, CR, dg, _, _, rfl, hg, T.cR, T.nPl, rf_place a n, _, rfl, r, CR, dg, _, _, rfl, hg, T.cR, T.nRow, rf_row a n, a, _, rfl, .inl hsG, _, _, rfl, rfl, _, rfl, ?_⟩) (fun _ Q' h => ⟨_, rfl, r, dg, _, rfl, hg, rf_no a n (by decide +kernel) (by decide +kernel), r, a, n, bs, rfl, ⟨dg, hg⟩, hsG, ?_⟩) ?_
          · rw [List.length_map, decide_eq_true (by omega)]
            exact h
          · rw [eb]
            exact ⟨d, rfl, _, rfl, h⟩
          · cases edg : Sw.isDigit d with
            | false =>
              have er : res = .ok (n - p) := by
                rw [er]
                unfold restT
                by_cases h : c = 48
                · rw [if_pos h]
                  simp [edg]
                · rw [if_neg h, List.takeWhile_cons, edg]; rfl
              rw [er] at q
              have q : ∀ H' : Hp, RdAt CR H' r a (p + (n - p)) → Kp H H' r → p + (n - p) ≤ bs.length → Q .non H' := q
              rw [show p + (n - p) = n by omega] at q
              exact iteF (q G ⟨dg, hg⟩ kG hn2)
            | true =>
              refine iteT ⟨_, fun σ' G' h => h, ?_⟩
              refine ⟨_, rfl, rfl, _, rfl, ?_⟩
              rw [e48]
              by_cases h : c = 48
              · rw [decide_eq_true h]
                have er : res = .error ⟨2, n⟩ := by
                  rw [er]
                  unfold restT
                  rw [if_pos h]
                  simp [edg]
                rw [er] at q
                exact iteT ⟨_, rfl, r, CR, dg, _, _, rfl, hg, T.cR, T.nPl, rf_place a n, _, _, rfl, q⟩
              · rw [decide_eq_false h]
                refine iteF ⟨_, rfl, r, dg, _, rfl, hg, rf_no a n (by decide +kernel) (by decide +kernel), r, a, n, 1, bs, rfl, ⟨dg, hg⟩, hsG, hn2, ?_⟩
                rw [if_neg (by omega)]
                intro G' rd' k'
                refine ⟨bs.length - (n + 1), by omega, n + 1, rfl, rd', kG.trans k', by omega, hlt2, rfl, ?_⟩
                rw [er]
                unfold restT
                rw [if_neg h, if_neg h, List.takeWhile_cons, edg, if_pos rfl, List.length_cons]
                exact congrArg Except.ok (by omega)
theorem scXS : FnScope ["reader", "start", "below_0", "first", "amount", "byte"] ["reader", "start"] (defScope sXS) := ⟨rfl, rfl, rfl, by decide +kernel, rfl, by decide +kernel, by decide +kernel⟩
theorem ok_XS {f fSB fRG fXP : Addr} {fd fdS fdG fdP fdI : FuncData} (F : Fun K "read_tens" "read_tens" sXS f fd) (T : TxR K mg CF CR fFI) (FI : Fun K "__init__" "Fault.__init__" sFI fFI fdI) (bI : Binds K fdI ["self", "kind", "place"] []) (kn : GI mg "NOUGHT" 48) (km : GI mg "MINUS" 45) (kf : GI mg "MOST_FIGURES" 9865) (e4 : GI mg "OUT_OF_RANGE" 4)
    (GS : FnOk P w K mg base (CXF P w) 3 fSB fdS ["self"] (spSB K CF CR)) (bS : Binds K fdS ["self"] []) (mS : Meth K CR "see_byte" fSB)
    (GG : FnOk P w K mg base (CXF P w) 4 fRG fdG ["self", "sign"] (spRG K CF CR)) (bG : Binds K fdG ["self", "sign"] []) (mG : Meth K CR "read_sign" fRG)
    (GP : FnOk P w K mg base (CXF P w) 4 fXP fdP ["reader", "below_0"] (spXP K CF CR)) (bP : Binds K fdP ["reader", "below_0"] []) (kP : PySem.W.keepIn K (.ref fXP) = true) (mP : mg "pass_tens" = some (.ref fXP)) :
    FnOk P w K mg base (CXF P w) 5 f fd ["reader", "start"] (spXS K CF CR) := by
  have GI : FnOk P w K mg base CX0 1 fFI fdI ["self", "kind", "place"] (spXI CF) := ok_FI FI T
  refine okX F scXS (fun vs H Q E h => ?_) (fun cdv A outer s H vs Q E hr h => ?_)
  · obtain ⟨r, a, p, start, bs, rfl, _⟩ := h
    rfl
  · obtain ⟨r, a, p, start, bs, rfl, ⟨dx, hr1⟩, hs, hp, hz, q⟩ := h
    have hr2 : Room 2 _ := hr.mono (by decide)
    have hr3 : Room 3 _ := hr.mono (by decide)
    have hr4 : Room 4 _ := hr.mono (by decide)
    refine ⟨_, pss_cons (ps_set (i := 2) scXS.nd rfl (Or.inl rfl) (pe_cmpR op_eq (pe_meth0 (pv 0) T.cR mS GS hr3 bS .nil passX) (pgi km rfl) (nomark _)))
      (pss_cons (ps_if (pt_val (pv 2)) (pss_one (ps_expr (pe_meth (pv 0) T.cR mG GG hr4 bG .nil passX (pa_cons (pgi km rfl) pa_nil)))) pss_nil)
      (pss_cons (ps_set (i := 3) scXS.nd rfl (Or.inl rfl) (pe_fld (pv 0) rfl))
      (pss_cons (ps_expr (pe_call GP hr4 rfl mP kP bP .nil passX (pa_cons (pv 0) (pa_cons (pv 2) pa_nil))))
      (pss_cons (ps_if (pt_cmpR op_gt (pe_op op_sub (pe_fld (pv 0) rfl) (pv 3)) (pgi kf rfl) (nomark _)) (pss_one (ps_raise T.xc GI bI hr2 flies_cx rfl rfl T.mF (pa_cons (pgi e4 rfl) (pa_cons (pv 1) pa_nil)))) pss_nil)
      (pss_cons (ps_set (i := 4) scXS.nd rfl (Or.inl rfl) pe_int)
      (pss_cons (ps_for PassesOwn.leaving rfl (pi_list (pe_slice sl_list (pe_fld (pv 0) rfl) (po_some (pv 3)) (po_some (pe_fld (pv 0) rfl)))) (pg_name (i := 5) scXS.nd rfl (Or.inl rfl))
        (pss_one (ps_set (i := 4) scXS.nd rfl (Or.inl rfl) (pe_op op_sub (pe_op op_add (pe_op op_mul (pv 4) pe_int) (pv 5)) (pgi kn rfl)))))
      (pss_one (ps_ret (pe_ifExp (pt_val (pv 2)) (pe_un un_neg (pv 4)) (pv 4)))))))))), ?_⟩
    refine ⟨_, rfl, r, dx, _, rfl, hr1, rf_no a p (by decide +kernel) (by decide +kernel), r, a, p, bs, rfl, ⟨dx, hr1⟩, hs, ?_⟩
    cases e : bs[p]? with
    | none =>
      obtain ⟨e1, e2⟩ := drop_end e hp
      rw [e1] at q
      have q : Err E CF (.int 1) (.int (p : Int)) := q
      rw [e2] at q
      exact q
    | some c =>
      have hlt := (List.getElem?_eq_some_iff.mp e).1
      have ed := drop_at e
      have eneg : negB (bs.drop p) = decide (c = 45) := by
        rw [ed]
        unfold negB
        rw [Bool.eq_iff_iff, beq_iff_eq, decide_eq_true_eq]
        exact ⟨fun z => Option.some.inj z, fun z => congrArg some z⟩
      unfold tensAt at q
      rw [eneg, List.drop_drop] at q
      refine ⟨rfl, ?_⟩
      rw [show (V.int 45) = bv 45 from rfl, bv_inj]
      generalize hneg : decide (c = 45) = neg at q
      refine if_join (b := neg) (fun H1 => RdAt CR H1 r a (p + neg.toNat) ∧ Kp H H1 r ∧ p + neg.toNat ≤ bs.length) rfl ?_ (fun hb k => ?_) (fun hb => ?_)
      · rintro H1 ⟨⟨d1, h1⟩, k1, l1⟩
        have hs1 := sq_kp hs k1 hr1
        refine ⟨_, rfl, r, CR, d1, _, _, rfl, h1, T.cR, T.nPl, rf_place a _, ?_⟩
        refine ⟨_, rfl, _, rfl, r, a, p + neg.toNat, neg, bs, rfl, ⟨d1, h1⟩, hs1, l1, ?_⟩
        cases ep : passAt neg (p + neg.toNat) (bs.drop (p + neg.toNat)) with
        | error e =>
          rw [ep] at q
          exact q
        | ok k =>
          rw [ep] at q
          dsimp only at q
          rintro G ⟨dg, hg⟩ kG lG
          have kk := k1.trans kG
          have hsG := sq_kp hs kk hr1
          obtain ⟨p1, p2, p3, p4⟩ := pass_all ep
          refine ⟨_, rfl, r, CR, dg, _, _, rfl, hg, T.cR, T.nPl, rf_place a _, _, rfl, _, _, rfl, rfl, _, _, rfl, rfl, _, rfl, ?_⟩
          by_cases hk : 9865 < k
          · rw [decide_eq_true (by omega)]
            rw [if_pos hk] at q
            exact iteT ⟨_, rfl, _, _, rfl, q⟩
          · rw [decide_eq_false (by omega)]
            rw [if_neg hk] at q
            refine iteF ⟨_, rfl, r, CR, dg, _, _, rfl, hg, T.cR, T.nRow, rf_row a _, _, rfl, _, rfl, _, rfl, r, CR, dg, _, _, rfl, hg, T.cR, T.nPl, rf_place a _, _, rfl, a, _, rfl, hsG, fun x hx => ?_⟩
            rw [cut_bytes bs (p + neg.toNat) k lG rfl rfl]
            generalize hds : (bs.drop (p + neg.toNat)).take k = ds at *
            have hxr : x ≠ r := fun z => by rw [z, hg] at hx; cases hx
            have kx : Kp H (upd G x (.lst (ds.map bv))) r := fun b o e n => (upd_ne (ne_of_none (kk _ _ e n) hx)).trans (kk _ _ e n)
            have hgx : upd G x (.lst (ds.map bv)) r = some (.ins CR dg (rf a (p + neg.toNat + k))) := (upd_ne (Ne.symm hxr)).trans hg
            refine ⟨x, rfl, ⟨_, SqL.of upd_same⟩, for_list (xs := ds.map bv) (fun i σ G' => ∃ v5, σ = [some (.ref r), some (.int (start : Int)), some (.bl neg), some (.int ((p + neg.toNat : Nat) : Int)), some (.int ((tval 0 (ds.take i) : Nat) : Int)), v5] ∧ G' = upd G x (.lst (ds.map bv))) ⟨none, rfl, rfl⟩ ?_ ?_ ?_⟩
            · rintro i σ G' _ ⟨_, _, rfl⟩
              exact SqL.of upd_same
            · rintro i y σ G' hy ⟨v5, rfl, rfl⟩
              rw [List.getElem?_map] at hy
              cases ew : ds[i]? with
              | none => rw [ew] at hy; cases hy
              | some d =>
                rw [ew] at hy
                have hy : bv d = y := Option.some.inj hy
                subst hy
                have hdd := digit_iff.mp (p1 d (List.mem_of_getElem? ew))
                have et : ds.take (i + 1) = ds.take i ++ [d] := by rw [List.take_succ, ew]; rfl
                refine ⟨_, rfl, _, _, rfl, rfl, .inr ⟨by decide, by decide⟩, _, rfl, _, _, rfl, rfl, _, _, rfl, rfl, some (bv d), ?_, rfl⟩
                rw [et, tval_snoc]
                show [some (V.ref r), some (V.int (start : Int)), some (V.bl neg), some (V.int ((p + neg.toNat : Nat) : Int)), some (V.int (((tval 0 (ds.take i) : Nat) : Int) * 10 + (d.toNat : Int) - 48)), some (bv d)] = _
                rw [show ((tval 0 (ds.take i) : Nat) : Int) * 10 + (d.toNat : Int) - 48 = ((10 * tval 0 (ds.take i) + (d.toNat - 48) : Nat) : Int) by omega]
            · rintro σ G' ⟨v5, rfl, rfl⟩
              rw [List.length_map, List.take_length]
              have q := q _ ⟨dg, by rw [← Nat.add_assoc]; exact hgx⟩ kx (by show p + (neg.toNat + k) ≤ _; omega)
              refine ⟨_, rfl, _, rfl, ?_⟩
              cases hn : neg with
              | true =>
                rw [hn] at q
                exact iteT ⟨_, rfl, _, rfl, q⟩
              | false =>
                rw [hn] at q
                exact iteF ⟨_, rfl, q⟩
      · subst hb
        have hc := of_decide_eq_true hneg
        subst hc
        refine ⟨_, rfl, r, dx, _, rfl, hr1, rf_no a p (by decide +kernel) (by decide +kernel), r, a, p, bs, 45, rfl, ⟨dx, hr1⟩, hs, hp, ?_⟩
        rw [ed, just_cons]
        have e0 : ∀ (n : Nat) (l : List UInt8), Sw.just n [] l = .ok () := fun n l => by unfold Sw.just; rfl
        rw [e0]
        intro H1 rd1 k1
        exact k H1 ⟨rd1, k1, hlt⟩
      · subst hb
        exact ⟨⟨dx, hr1⟩, Kp.refl _ _, hp⟩
end
end L2.J

set_option Elab.async false
set_option linter.all false
set_option maxRecDepth 100000
set_option maxHeartbeats 2000000
namespace L2
open PySem PySem.Spec PyProof.Rows
section
variable {X : Cx}
def rBits : V → List V → Hp → VK → Prop := fun x xs H Q => ∃ i, x = .int i ∧ xs = [] ∧ Q (.int ((Builtin.Int.intBits i : Nat) : Int)) H
theorem mt_bits : MtR X "int.bit_length" rBits := by
  intro pins s σ H x xs v us Q I rx rs h
  obtain ⟨i, rfl, rfl, q⟩ := h
  obtain ⟨t, rfl⟩ := rx
  have hus := rs.zero
  subst hus
  exact call_int_bit_length ⟨.int _, H, I.tok _, ⟨_, rfl⟩, q⟩
end
end L2
namespace L2.J
open PySem PySem.Spec PyProof.Rows L2.XC
theorem bits_le {z : Int} {k : Nat} : Builtin.Int.intBits z ≤ k ↔ z.natAbs < 2 ^ k := by
  unfold Builtin.Int.intBits
  by_cases h : z = 0
  · subst h
    rw [if_pos (by rfl)]
    exact ⟨fun _ => Nat.two_pow_pos k, fun _ => Nat.zero_le k⟩
  · have h0 : z.natAbs ≠ 0 := by omega
    rw [if_neg (by simpa using h), ← Nat.log2_lt h0]
    exact ⟨fun h => h, fun h => h⟩
theorem lim_eq : (256 : Nat) ^ Sw.NUMBER = 2 ^ (8 * Sw.NUMBER) := by
  rw [show (256 : Nat) = 2 ^ 8 by decide, ← Nat.pow_mul]
def inR (z : Int) : Prop := Builtin.Int.intBits z ≤ 32768
instance (z : Int) : Decidable (inR z) := inferInstanceAs (Decidable (Builtin.Int.intBits z ≤ 32768))
theorem inR_iff {z : Int} : inR z ↔ z.natAbs < 256 ^ Sw.NUMBER := by
  rw [lim_eq]
  exact bits_le (k := 8 * Sw.NUMBER)
def spIR : Sp := fun vs H Q _ => ∃ z : Int, vs = [.int z] ∧ Q (.bl (decide (inR z))) H
def spKR (K : PySem.W.Frag) : Sp := fun vs H Q _ => ∃ (k n : Nat) (b : Addr) (ys : List V), vs = [.int (k : Int), .int (n : Int), .ref b] ∧ SqL K H b ys ∧ n < 34359738368 ∧ ys.length + 6 ≤ sizeLine ∧ ∀ (x : Addr) (H' : Hp), Same H H' → H x = none → H' x = some (.lst (V.int (k : Int) :: ((Sw.vary n).map bv ++ ys))) → Q (.ref x) H'

def spMR : Sp := fun vs H Q _ => ∃ z : Int, vs = [.int z] ∧ ∀ (x : Addr) (H' : Hp), Same H H' → H x = none → H' x = some (.lst ((7 :: Sw.le 8 (z % ((2 ^ 64 : Nat) : Int)).toNat).map bv)) → Q (.ref x) H'
def momAt (p : Nat) (b : List UInt8) : Except Sw.Fault (List UInt8 × Nat) := match Sw.just p [64] b with
  | .error e => .error e
  | .ok _ => match Sw.figuresAt (p + 1) (b.drop 1) with
    | .error e => .error e
    | .ok (z, n) => if z < -((2 ^ 63 : Nat) : Int) ∨ ((2 ^ 63 : Nat) : Int) ≤ z then .error ⟨4, p⟩ else .ok (7 :: Sw.le 8 (z % ((2 ^ 64 : Nat) : Int)).toNat, n + 1)
def spB2 (g : UInt8 → Bool) : Sp := fun vs H Q _ => ∃ c : UInt8, vs = [bv c] ∧ ∀ H' : Hp, Same H H' → Q (.bl (g c)) H'
def atomB (c : UInt8) : Bool := Sw.isDigit c || [110, 121, 45, 120, 34, 64, 35].contains c.toNat
theorem mom_step (l : Int) {N : Nat} (hN : 0 < N) : l % 256 = (((l % ((256 * N : Nat) : Int)).toNat % 256 : Nat) : Int) ∧ ((l / 256) % (N : Int)).toNat = (l % ((256 * N : Nat) : Int)).toNat / 256 := by
  have hp : (0 : Int) < ((256 * N : Nat) : Int) := by omega
  have h0 := Int.emod_nonneg l (Int.ne_of_gt hp)
  have h1 := Int.emod_lt_of_pos l hp
  have h2 := Int.mul_ediv_add_emod l ((256 * N : Nat) : Int)
  generalize l % ((256 * N : Nat) : Int) = m at h0 h1 h2 ⊢
  obtain ⟨m, rfl⟩ := Int.eq_ofNat_of_zero_le h0
  generalize l / ((256 * N : Nat) : Int) = k at h2
  have e1 : ((256 * N : Nat) : Int) * k = 256 * ((N : Int) * k) := by rw [Int.natCast_mul, Int.mul_assoc]; rfl
  rw [e1] at h2
  generalize ht : (N : Int) * k = t at h2
  refine ⟨by omega, ?_⟩
  have e2 : l / 256 = ((m / 256 : Nat) : Int) + (N : Int) * k := by rw [ht]; omega
  rw [e2, Int.add_mul_emod_self_left, Int.emod_eq_of_lt (by omega) (by omega)]
  rfl
theorem tens_cases (start p : Nat) (b : List UInt8) : (∃ e, tensAt start p b = .error e ∧ Sw.figuresAt p b = .error e) ∨ (∃ z n, tensAt start p b = .error ⟨4, start⟩ ∧ Sw.figuresAt p b = .ok (z, n) ∧ 256 ^ Sw.NUMBER ≤ z.natAbs) ∨ (∃ z n, tensAt start p b = .ok (z, n) ∧ Sw.figuresAt p b = .ok (z, n) ∧ Sw.amountLength z.natAbs ≤ n ∧ 1 ≤ n) := by
  rw [fig_pass]
  unfold tensAt
  generalize hneg : negB b = neg
  cases ep : passAt neg (p + neg.toNat) (b.drop neg.toNat) with
  | error e => exact .inl ⟨e, rfl, rfl⟩
  | ok k =>
    dsimp only
    have ha : ∀ v : Nat, (if neg = true then -((v : Nat) : Int) else ((v : Nat) : Int)).natAbs = v := fun v => by
      cases neg with
      | true => rw [if_pos rfl]; omega
      | false => rw [if_neg (by decide)]; omega
    by_cases hk : 9865 < k
    · rw [if_pos hk]
      exact .inr (.inl ⟨_, _, rfl, rfl, by rw [ha]; exact tval_big ep hk⟩)
    · rw [if_neg hk]
      have h1 := tval_amount ep
      have h2 := (pass_all ep).2.1
      exact .inr (.inr ⟨_, _, rfl, rfl, by rw [ha]; omega, by omega⟩)
section
variable {P : Program} {w : World} {K : PySem.W.Frag} {mg : Str → Option Value} {base : Heap} {CF CR fFI : Addr}
theorem scIR : FnScope ["number"] ["number"] (defScope sIR) := ⟨rfl, rfl, rfl, by decide +kernel, rfl, by decide +kernel, by decide +kernel⟩
theorem ok_IR {f : Addr} {fd : FuncData} (F : Fun K "is_in_range" "is_in_range" sIR f fd) (ln : GI mg "LONGEST_NUMBER" 4096) : FnOk P w K mg base CX0 1 f fd ["number"] spIR := by
  refine F.ok scIR (fun vs H Q E h => ?_) (fun cdv A outer s H vs Q E hr h => ?_)
  · obtain ⟨z, rfl, _⟩ := h
    rfl
  · obtain ⟨z, rfl, q⟩ := h
    refine ⟨_, pss_one (ps_ret (pe_cmpR op_le (pe_bm0 PySem.F.plainAttrs_int PySem.F.slot_int_bit_length PySem.F.type_int_bit_length mt_bits (pv 0)) (pe_op op_mul pe_int (pgi ln rfl)) (nomark _))), ?_⟩
    refine ⟨_, rfl, rfl, z, rfl, rfl, _, _, rfl, rfl, .inl ⟨by decide, by decide⟩, _, _, rfl, rfl, ?_⟩
    have e : decide (((Builtin.Int.intBits z : Nat) : Int) ≤ 8 * 4096) = decide (inR z) := by
      by_cases c : inR z
      · have c' : Builtin.Int.intBits z ≤ 32768 := c
        rw [decide_eq_true c, decide_eq_true (by omega)]
      · have c' : ¬ Builtin.Int.intBits z ≤ 32768 := c
        rw [decide_eq_false c, decide_eq_false (by omega)]
    show Q (.bl (decide (((Builtin.Int.intBits z : Nat) : Int) ≤ 8 * 4096))) H
    rw [e]
    exact q
theorem scKR : FnScope ["kind", "how_many", "inner"] ["kind", "how_many", "inner"] (defScope sKR) := ⟨rfl, rfl, rfl, by decide +kernel, rfl, by decide +kernel, by decide +kernel⟩
theorem ok_KR {f fVR : Addr} {fd fdV : FuncData} (F : Fun K "counted_row" "counted_row" sKR f fd)
    (GV : FnOk P w K mg base CX0 1 fVR fdV ["amount"] spVR) (bV : Binds K fdV ["amount"] []) (kV : PySem.W.keepIn K (.ref fVR) = true) (mV : mg "vary_row" = some (.ref fVR)) :
    FnOk P w K mg base CX0 2 f fd ["kind", "how_many", "inner"] (spKR K) := by
  refine F.ok scKR (fun vs H Q E h => ?_) (fun cdv A outer s H vs Q E hr h => ?_)
  · obtain ⟨k, n, b, ys, rfl, _⟩ := h
    rfl
  · obtain ⟨k, n, b, ys, rfl, hb, hn, hy, q⟩ := h
    refine ⟨_, pss_one (ps_ret (pe_op op_catL (pe_op op_catL (pe_lst (pa_cons (pv 0) pa_nil)) (pe_call GV hr rfl mV kV bV .nil pass0 (pa_cons (pv 1) pa_nil))) (pv 2))), ?_⟩
    refine ⟨_, rfl, (by show 1 ≤ sizeLine; decide), fun y hy' => ?_⟩
    have l5 := vary_len5 (n := n) hn
    have ky : Same H (upd H y (.lst [V.int (k : Int)])) := fun b o e => (upd_ne (ne_of_none e hy')).trans e
    refine ⟨_, rfl, n, rfl, hn, fun x H1 k1 hx h1 => ?_⟩
    refine ⟨y, x, _, _, rfl, rfl, SqL.of (k1 _ _ upd_same), SqL.of h1, ?_, fun p hp => ?_⟩
    · rw [List.length_map]
      show 1 + _ ≤ _
      omega
    · have kp : Same H1 (upd H1 p (.lst ([V.int (k : Int)] ++ (Sw.vary n).map bv))) := fun b o e => (upd_ne (ne_of_none e hp)).trans e
      have kk := ky.trans (k1.trans kp)
      refine ⟨_, rfl, p, b, _, _, rfl, rfl, SqL.of upd_same, kk.seq hb, ?_, fun p2 hp2 => ?_⟩
      · rw [List.length_append, List.length_map]
        show 1 + _ + _ ≤ _
        omega
      · refine q p2 _ (fun b o e => (upd_ne (ne_of_none (kk _ _ e) hp2)).trans (kk _ _ e)) (kk.free hp2) ?_
        rw [upd_same, List.append_assoc]
        rfl
theorem scXU : FnScope ["reader", "start", "number"] ["reader"] (defScope sXU) := ⟨rfl, rfl, rfl, by decide +kernel, rfl, by decide +kernel, by decide +kernel⟩
theorem ok_XU {f fXS fIR fNR : Addr} {fd fdS fdR fdN fdI : FuncData} (F : Fun K "read_number" "read_number" sXU f fd) (T : TxR K mg CF CR fFI) (FI : Fun K "__init__" "Fault.__init__" sFI fFI fdI) (bI : Binds K fdI ["self", "kind", "place"] []) (e4 : GI mg "OUT_OF_RANGE" 4)
    (GS : FnOk P w K mg base (CXF P w) 5 fXS fdS ["reader", "start"] (spXS K CF CR)) (bS : Binds K fdS ["reader", "start"] []) (kS : PySem.W.keepIn K (.ref fXS) = true) (mS : mg "read_tens" = some (.ref fXS))
    (GR : FnOk P w K mg base CX0 1 fIR fdR ["number"] spIR) (bR : Binds K fdR ["number"] []) (kR : PySem.W.keepIn K (.ref fIR) = true) (mR : mg "is_in_range" = some (.ref fIR))
    (GN : FnOk P w K mg base CX0 2 fNR fdN ["number"] spNR) (bN : Binds K fdN ["number"] []) (kN : PySem.W.keepIn K (.ref fNR) = true) (mN : mg "number_row" = some (.ref fNR)) :
    FnOk P w K mg base (CXF P w) 6 f fd ["reader"] (spR2 K CF CR 7 numAt) := by
  have GI : FnOk P w K mg base CX0 1 fFI fdI ["self", "kind", "place"] (spXI CF) := ok_FI FI T
  refine okX F scXU (fun vs H Q E h => ?_) (fun cdv A outer s H vs Q E hr h => ?_)
  · obtain ⟨r, a, p, bs, rfl, _⟩ := h
    rfl
  · obtain ⟨r, a, p, bs, rfl, ⟨dx, hr1⟩, hs, hp, hz, q⟩ := h
    have hr1' : Room 1 _ := hr.mono (by decide)
    have hr2 : Room 2 _ := hr.mono (by decide)
    refine ⟨_, pss_cons (ps_set (i := 1) scXU.nd rfl (Or.inl rfl) (pe_fld (pv 0) rfl))
      (pss_cons (ps_set (i := 2) scXU.nd rfl (Or.inl rfl) (pe_call GS hr rfl mS kS bS .nil passX (pa_cons (pv 0) (pa_cons (pv 1) pa_nil))))
      (pss_cons (ps_if (pt_not (pt_val (pe_call GR hr1' rfl mR kR bR .nil pass0 (pa_cons (pv 2) pa_nil)))) (pss_one (ps_raise T.xc GI bI hr2 flies_cx rfl rfl T.mF (pa_cons (pgi e4 rfl) (pa_cons (pv 1) pa_nil)))) pss_nil)
      (pss_one (ps_ret (pe_call GN hr2 rfl mN kN bN .nil pass0 (pa_cons (pv 2) pa_nil)))))), ?_⟩
    unfold numAt at q
    refine ⟨_, rfl, r, CR, dx, _, _, rfl, hr1, T.cR, T.nPl, rf_place a p, _, rfl, _, rfl, r, a, p, p, bs, rfl, ⟨dx, hr1⟩, hs, hp, hz, ?_⟩
    rcases tens_cases p p (bs.drop p) with ⟨e, e1, e2⟩ | ⟨z, n, e1, e2, e3⟩ | ⟨z, n, e1, e2, e3, e4'⟩
    · rw [e1]
      rw [e2] at q
      exact q
    · rw [e1]
      rw [e2] at q
      dsimp only at q
      rw [if_pos e3] at q
      exact q
    · rw [e1]
      rw [e2] at q
      dsimp only at q
      intro H1 rd1 k1 l1
      refine ⟨_, rfl, z, rfl, _, rfl, ?_⟩
      by_cases h : inR z
      · rw [decide_eq_true h]
        have hlt := inR_iff.mp h
        rw [if_neg (Nat.not_le_of_lt hlt)] at q
        have ham : Sw.amountLength z.natAbs ≤ 4096 := amount_le 4096 _ hlt
        clear hlt
        refine iteF ⟨_, rfl, z, rfl, by omega, fun x H2 k2 hx h2 => ?_⟩
        have hxr : x ≠ r := fun y => by
          obtain ⟨d1, e⟩ := rd1
          rw [y, e] at hx
          cases hx
        refine q x H2 (let ⟨d1, e⟩ := rd1; ⟨d1, k2 _ _ e⟩) (fun b o e n => k2 _ _ (k1 _ _ e n)) ?_ h2 l1 ?_
        · cases e : H x with
          | none => rfl
          | some o =>
            have := k1 _ _ e hxr
            rw [hx] at this
            cases this
        · unfold Sw.numberBytes
          have l5 := vary_len5 (n := 2 * Sw.amountLength z.natAbs + if z < 0 then 1 else 0) (by split <;> omega)
          rw [List.length_cons, List.length_append, Pm.le_len]
          show _ ≤ 7 * n
          omega
      · rw [decide_eq_false h]
        have hge : ¬ z.natAbs < 256 ^ Sw.NUMBER := fun y => h (inR_iff.mpr y)
        rw [if_pos (Nat.le_of_not_lt hge)] at q
        exact iteT ⟨_, rfl, _, _, rfl, q⟩
theorem scMR : FnScope ["number", "row", "left", "turn"] ["number"] (defScope sMR) := ⟨rfl, rfl, rfl, by decide +kernel, rfl, by decide +kernel, by decide +kernel⟩
theorem ok_MR {f : Addr} {fd : FuncData} (F : Fun K "moment_row" "moment_row" sMR f fd) (k7 : GI mg "MOMENT" 7) (k8 : GI mg "MOMENT_LENGTH" 8) (rng : mg "range" = none) : FnOk P w K mg base CX0 1 f fd ["number"] spMR := by
  refine F.ok scMR (fun vs H Q E h => ?_) (fun cdv A outer s H vs Q E hr h => ?_)
  · obtain ⟨z, rfl, _⟩ := h
    rfl
  · obtain ⟨z, rfl, q⟩ := h
    refine ⟨_, pss_cons (ps_set (i := 1) scMR.nd rfl (Or.inl rfl) (pe_lst (pa_cons (pgi k7 rfl) pa_nil)))
      (pss_cons (ps_set (i := 2) scMR.nd rfl (Or.inl rfl) (pv 0))
      (pss_cons (ps_for PassesOwn.never rfl (pi_range1 rfl rng (pa_cons (pgi k8 rfl) pa_nil)) (pg_name (i := 3) scMR.nd rfl (Or.inl rfl))
        (pss_cons (ps_expr (pe_bm PySem.F.plainAttrs_list PySem.F.slot_list_append PySem.F.type_list_append mt_append (pv 1) (pa_cons (pe_op op_mod (pv 2) pe_int) pa_nil)))
        (pss_one (ps_set (i := 2) scMR.nd rfl (Or.inl rfl) (pe_op op_fdiv (pv 2) pe_int)))))
      (pss_one (ps_ret (pv 1))))), ?_⟩
    refine ⟨(by show 1 ≤ sizeLine; decide), fun x hx => ?_⟩
    refine ⟨_, rfl, 8, rfl, by decide, by decide, for_range (lo := 0) (n := 8) (fun i σ G => ∃ (v3 : Option V) (l : Int) (acc : List UInt8), σ = [some (.int z), some (.ref x), some (.int l), v3] ∧ Same H G ∧ G x = some (.lst (((7 : UInt8) :: acc).map bv)) ∧ acc.length = i ∧ Sw.le 8 (z % ((2 ^ 64 : Nat) : Int)).toNat = acc ++ Sw.le (8 - i) (l % ((256 ^ (8 - i) : Nat) : Int)).toNat) ⟨none, z, [], rfl, fun b o e => (upd_ne (ne_of_none e hx)).trans e, upd_same, rfl, rfl⟩ ?_ ?_⟩
    · rintro i σ G hi ⟨v3, l, acc, rfl, kG, hGx, hal, el⟩
      refine ⟨_, rfl, .inl ⟨rfl, _, SqL.of hGx⟩, _, rfl, _, _, rfl, rfl, (by show (0 : Int) < 256; decide), x, _, _, rfl, rfl, hGx, ?_, _, rfl, _, _, rfl, rfl, ⟨by decide, by decide⟩, some (.int (0 + i)), l / 256, acc ++ [UInt8.ofNat ((l % ((256 ^ (8 - i) : Nat) : Int)).toNat % 256)], rfl, ?_, ?_, ?_, ?_⟩
      · rw [List.length_map, List.length_cons, hal, sizeLine_eq]
        omega
      · exact fun b o e => (upd_ne (fun z => by rw [z, hx] at e; cases e)).trans (kG _ _ e)
      · rw [upd_same, show 8 - i = (7 - i) + 1 by omega, Nat.pow_succ, Nat.mul_comm]
        have ms := (mom_step l (Nat.pow_pos (n := 7 - i) (show 0 < 256 by decide))).1
        show some (HO.lst (((7 : UInt8) :: acc).map bv ++ [V.int (l % 256)])) = some (HO.lst (((7 : UInt8) :: (acc ++ [UInt8.ofNat _])).map bv))
        rw [← List.cons_append, List.map_append]
        show _ = some (HO.lst (((7 : UInt8) :: acc).map bv ++ [bv (UInt8.ofNat _)]))
        rw [bv_of (Nat.mod_lt _ (by decide)), ← ms]
      · rw [List.length_append, hal]
        rfl
      · have e7 : 8 - i = (7 - i) + 1 := by omega
        rw [el, e7, Pm.le_succ, List.append_assoc]
        rw [show 8 - (i + 1) = 7 - i by omega]
        have ms := (mom_step l (Nat.pow_pos (n := 7 - i) (show 0 < 256 by decide))).2
        rw [Nat.pow_succ, Nat.mul_comm (256 ^ (7 - i)) 256, ms]
        rfl
    · rintro σ G ⟨v3, l, acc, rfl, kG, hGx, hal, el⟩
      have el : Sw.le 8 (z % ((2 ^ 64 : Nat) : Int)).toNat = acc ++ [] := el
      rw [List.append_nil] at el
      rw [el] at q
      exact ⟨_, rfl, q x G kG hx hGx⟩
end
end L2.J

set_option Elab.async false
set_option linter.all false
set_option maxRecDepth 100000
set_option maxHeartbeats 2000000
namespace L2.J
open PySem PySem.Spec PyProof.Rows L2.XC
/-! ### atoms -/
def ctd (k : UInt8) (m : List UInt8) : List UInt8 := k :: (Sw.vary m.length ++ m)
def atomAt (p : Nat) (b : List UInt8) : Except Sw.Fault (List UInt8 × Nat) := match b with
  | [] => .error ⟨1, p⟩
  | c :: _ => if c = 110 then (Sw.just p [110, 111] b).map fun _ => ([0], 2) else if c = 121 then (Sw.just p [121, 101, 115] b).map fun _ => ([1], 3)
    else if c = 120 then (pairedAt p b).map fun z => (ctd 3 z.1, z.2) else if c = 34 then (quoteAt p b).map fun z => (ctd 4 z.1, z.2)
    else if c = 64 then momAt p b else if c = 35 then idAt p b else numAt p b
theorem p63 : ((2 ^ 63 : Nat) : Int) = 9223372036854775808 := rfl
theorem not_far {z : Int} (h : 256 ^ Sw.NUMBER ≤ z.natAbs) : z < -9223372036854775808 ∨ (9223372036854775808 : Int) ≤ z := by
  have h2 : 9223372036854775808 < 256 ^ Sw.NUMBER := by decide +kernel
  have h3 := Nat.lt_of_lt_of_le h2 h
  clear h h2
  omega
theorem ctd_len {k : UInt8} {m : List UInt8} {n : Nat} (h : m.length ≤ 1 * n) (h1 : 1 ≤ n) (h2 : n ≤ 65536) : (ctd k m).length ≤ 7 * n := by
  unfold ctd
  have := vary_len5 (n := m.length) (by omega)
  rw [List.length_cons, List.length_append]
  omega
theorem ctd_map (k : UInt8) (m : List UInt8) : V.int ((k.toNat : Nat) : Int) :: ((Sw.vary m.length).map bv ++ m.map bv) = (ctd k m).map bv := by
  unfold ctd
  rw [List.map_cons, List.map_append]
  rfl
section
variable {P : Program} {w : World} {K : PySem.W.Frag} {mg : Str → Option Value} {base : Heap} {CF CR fFI : Addr}
theorem scXM : FnScope ["reader", "start", "number"] ["reader"] (defScope sXM) := ⟨rfl, rfl, rfl, by decide +kernel, rfl, by decide +kernel, by decide +kernel⟩
theorem ok_XM {f fRG fXS fMR : Addr} {fd fdG fdS fdM fdI : FuncData} (F : Fun K "read_moment" "read_moment" sXM f fd) (T : TxR K mg CF CR fFI) (FI : Fun K "__init__" "Fault.__init__" sFI fFI fdI) (bI : Binds K fdI ["self", "kind", "place"] []) (e4 : GI mg "OUT_OF_RANGE" 4) (km : GI mg "MOMENT_SIGN" 64)
    (GG : FnOk P w K mg base (CXF P w) 4 fRG fdG ["self", "sign"] (spRG K CF CR)) (bG : Binds K fdG ["self", "sign"] []) (mG : Meth K CR "read_sign" fRG)
    (GS : FnOk P w K mg base (CXF P w) 5 fXS fdS ["reader", "start"] (spXS K CF CR)) (bS : Binds K fdS ["reader", "start"] []) (kS : PySem.W.keepIn K (.ref fXS) = true) (mS : mg "read_tens" = some (.ref fXS))
    (GM : FnOk P w K mg base CX0 1 fMR fdM ["number"] spMR) (bM : Binds K fdM ["number"] []) (kM : PySem.W.keepIn K (.ref fMR) = true) (mM : mg "moment_row" = some (.ref fMR)) :
    FnOk P w K mg base (CXF P w) 6 f fd ["reader"] (spR2 K CF CR 7 momAt) := by
  have GI : FnOk P w K mg base CX0 1 fFI fdI ["self", "kind", "place"] (spXI CF) := ok_FI FI T
  refine okX F scXM (fun vs H Q E h => ?_) (fun cdv A outer s H vs Q E hr h => ?_)
  · obtain ⟨r, a, p, bs, rfl, _⟩ := h
    rfl
  · obtain ⟨r, a, p, bs, rfl, ⟨dx, hr1⟩, hs, hp, hz, q⟩ := h
    have hr1' : Room 1 _ := hr.mono (by decide)
    have hr2 : Room 2 _ := hr.mono (by decide)
    have hr4 : Room 4 _ := hr.mono (by decide)
    refine ⟨_, pss_cons (ps_set (i := 1) scXM.nd rfl (Or.inl rfl) (pe_fld (pv 0) rfl))
      (pss_cons (ps_expr (pe_meth (pv 0) T.cR mG GG hr4 bG .nil passX (pa_cons (pgi km rfl) pa_nil)))
      (pss_cons (ps_set (i := 2) scXM.nd rfl (Or.inl rfl) (pe_call GS hr rfl mS kS bS .nil passX (pa_cons (pv 0) (pa_cons (pv 1) pa_nil))))
      (pss_cons (ps_if (PW.pt (pw_or (pt_cmpR op_lt (pv 2) (pe_un un_neg (pe_op op_pow pe_int pe_int)) (nomark _)) (pw_or1 (pt_cmpR op_ge (pv 2) (pe_op op_pow pe_int pe_int) (nomark _)))))
        (pss_one (ps_raise T.xc GI bI hr2 flies_cx rfl rfl T.mF (pa_cons (pgi e4 rfl) (pa_cons (pv 1) pa_nil)))) pss_nil)
      (pss_one (ps_ret (pe_call GM hr1' rfl mM kM bM .nil pass0 (pa_cons (pv 2) pa_nil))))))), ?_⟩
    unfold momAt at q
    refine ⟨_, rfl, r, CR, dx, _, _, rfl, hr1, T.cR, T.nPl, rf_place a p, _, rfl, r, dx, _, rfl, hr1, rf_no a p (by decide +kernel) (by decide +kernel), r, a, p, bs, 64, rfl, ⟨dx, hr1⟩, hs, hp, ?_⟩
    cases e1 : Sw.just p [64] (bs.drop p) with
    | error e =>
      rw [e1] at q
      exact q
    | ok u =>
      rw [e1] at q
      dsimp only at q
      intro H1 rd1 k1
      have hp1 : p + 1 ≤ bs.length := by
        cases eb : bs[p]? with
        | none =>
          rw [(drop_end eb hp).1] at e1
          cases e1
        | some d => exact (List.getElem?_eq_some_iff.mp eb).1
      have hs1 : SqL K H1 a (bs.map bv) := sq_kp hs k1 hr1
      rw [List.drop_drop, p63] at q
      refine ⟨_, rfl, _, rfl, r, a, p + 1, p, bs, rfl, rd1, hs1, hp1, hz, ?_⟩
      rcases tens_cases p (p + 1) (bs.drop (p + 1)) with ⟨e, e1, e2⟩ | ⟨z, n, e1, e2, e3⟩ | ⟨z, n, e1, e2, e3, e4'⟩
      · rw [e1]
        rw [e2] at q
        exact q
      · rw [e1]
        rw [e2] at q
        dsimp only at q
        rw [if_pos (not_far e3)] at q
        exact q
      · rw [e1]
        rw [e2] at q
        dsimp only at q
        intro H2 rd2 k2 l2
        have cp : CPow 2 63 := ⟨by decide, by decide, by show 2 < 2 ^ 64; decide⟩
        dsimp only [gName]
        refine seq_or (a := decide (z < -9223372036854775808)) (b := decide ((9223372036854775808 : Int) ≤ z)) (fun Q' h => ⟨_, rfl, 2, 63, rfl, rfl, cp, _, rfl, _, _, rfl, rfl, _, rfl, h⟩) (fun _ Q' h => ⟨_, rfl, 2, 63, rfl, rfl, cp, _, _, rfl, rfl, _, rfl, h⟩) ?_
        by_cases h : z < -9223372036854775808 ∨ (9223372036854775808 : Int) ≤ z
        · rw [if_pos h] at q
          have hb : (decide (z < -9223372036854775808) || decide ((9223372036854775808 : Int) ≤ z)) = true := by
            rw [Bool.or_eq_true, decide_eq_true_eq, decide_eq_true_eq]
            exact h
          rw [hb]
          exact iteT ⟨_, rfl, _, _, rfl, q⟩
        · rw [if_neg h] at q
          have hb : (decide (z < -9223372036854775808) || decide ((9223372036854775808 : Int) ≤ z)) = false := by
            rw [Bool.or_eq_false_iff, decide_eq_false_iff_not, decide_eq_false_iff_not]
            exact ⟨fun y => h (.inl y), fun y => h (.inr y)⟩
          rw [hb]
          refine iteF ⟨_, rfl, z, rfl, fun x H3 k3 hx h3 => ?_⟩
          have kk := k1.trans k2
          have hxr : x ≠ r := fun y => by
            obtain ⟨d1, e⟩ := rd2
            rw [y, e] at hx
            cases hx
          have rd3 : RdAt CR H3 r a (p + (n + 1)) := let ⟨d1, e⟩ := rd2; ⟨d1, by rw [show p + (n + 1) = p + 1 + n by omega]; exact k3 _ _ e⟩
          refine q x H3 rd3 (fun b o e n => k3 _ _ (kk _ _ e n)) ?_ h3 (by show p + (n + 1) ≤ _; omega) ?_
          · cases e : H x with
            | none => rfl
            | some o =>
              have := kk _ _ e hxr
              rw [hx] at this
              cases this
          · rw [List.length_cons, Pm.le_len]
            show 8 + 1 ≤ 7 * (n + 1)
            omega
theorem scX0 : FnScope ["byte"] ["byte"] (defScope sX0) := ⟨rfl, rfl, rfl, by decide +kernel, rfl, by decide +kernel, by decide +kernel⟩
theorem ok_X0 {f fI1 : Addr} {fd fd1 : FuncData} (F : Fun K "begins_atom" "begins_atom" sX0 f fd) (kn : GI mg "SMALL_N" 110) (ky : GI mg "SMALL_Y" 121) (km : GI mg "MINUS" 45) (kx : GI mg "SMALL_X" 120) (kq : GI mg "QUOTE" 34) (kt : GI mg "MOMENT_SIGN" 64) (ki : GI mg "ID_SIGN" 35)
    (G1 : FnOk P w K mg base CX0 1 fI1 fd1 ["byte"] (spB1 Sw.isDigit)) (b1 : Binds K fd1 ["byte"] []) (kk1 : PySem.W.keepIn K (.ref fI1) = true) (m1 : mg "is_ten" = some (.ref fI1)) :
    FnOk P w K mg base CX0 2 f fd ["byte"] (spB2 atomB) := by
  refine F.ok scX0 (fun vs H Q E h => ?_) (fun cdv A outer s H vs Q E hr h => ?_)
  · obtain ⟨c, rfl, _⟩ := h
    rfl
  · obtain ⟨c, rfl, q⟩ := h
    refine ⟨_, pss_one (ps_ret (pe_or (pe_call G1 hr rfl m1 kk1 b1 .nil pass0 (pa_cons (pv 0) pa_nil)) (pe_one (pe_cmpR op_in_seq (pv 0) (pe_tup (pa_cons (pgi kn rfl) (pa_cons (pgi ky rfl) (pa_cons (pgi km rfl) (pa_cons (pgi kx rfl) (pa_cons (pgi kq rfl) (pa_cons (pgi kt rfl) (pa_cons (pgi ki rfl) pa_nil)))))))) (by with_unfolding_all rfl))))), ?_⟩
    unfold atomB at q
    refine ⟨_, rfl, c, rfl, _, rfl, ?_⟩
    cases hd : Sw.isDigit c with
    | true =>
      rw [hd] at q
      exact iteT (q H fun b o e => e)
    | false =>
      rw [hd, Bool.false_or] at q
      refine iteF ⟨_, rfl, (by show 7 ≤ sizeLine; decide), fun t ht => ⟨t, _, rfl, .inr (SqT.of upd_same), rfl, rfl, ?_⟩⟩
      have ei : inV (bv c) [V.int 110, V.int 121, V.int 45, V.int 120, V.int 34, V.int 64, V.int 35] = [110, 121, 45, 120, 34, 64, 35].contains c.toNat := inV_nat c.toNat [110, 121, 45, 120, 34, 64, 35]
      show Q (.bl (if false = true then _ else inV (bv c) [V.int 110, V.int 121, V.int 45, V.int 120, V.int 34, V.int 64, V.int 35])) _
      rw [if_neg (by decide), ei]
      exact q _ fun b o e => (upd_ne (ne_of_none e ht)).trans e
theorem scXA : FnScope ["reader", "first", "inner"] ["reader"] (defScope sXA) := ⟨rfl, rfl, rfl, by decide +kernel, rfl, by decide +kernel, by decide +kernel⟩
theorem ok_XA {f fSB fXW fXG fXQ fXM fXI fXU fKR : Addr} {fd fdS fdW fdG fdQ fdM fdI fdU fdK : FuncData} (F : Fun K "read_atom" "read_atom" sXA f fd) (T : TxR K mg CF CR fFI)
    (kn : GI mg "SMALL_N" 110) (ky : GI mg "SMALL_Y" 121) (kx : GI mg "SMALL_X" 120) (kq : GI mg "QUOTE" 34) (kt : GI mg "MOMENT_SIGN" 64) (ki : GI mg "ID_SIGN" 35) (k0 : GI mg "NO" 0) (k1 : GI mg "YES" 1) (k3 : GI mg "BYTES" 3) (k4 : GI mg "TEXT" 4)
    (GS : FnOk P w K mg base (CXF P w) 3 fSB fdS ["self"] (spSB K CF CR)) (bS : Binds K fdS ["self"] []) (mS : Meth K CR "see_byte" fSB)
    (GW : FnOk P w K mg base (CXF P w) 5 fXW fdW ["reader", "words"] (spXW K CF CR)) (bW : Binds K fdW ["reader", "words"] []) (kW : PySem.W.keepIn K (.ref fXW) = true) (mW : mg "read_word" = some (.ref fXW))
    (GG : FnOk P w K mg base (CXF P w) 6 fXG fdG ["reader"] (spR2 K CF CR 1 pairedAt)) (bG : Binds K fdG ["reader"] []) (kG : PySem.W.keepIn K (.ref fXG) = true) (mG : mg "read_figured" = some (.ref fXG))
    (GQ : FnOk P w K mg base (CXF P w) 8 fXQ fdQ ["reader"] (spR2 K CF CR 1 quoteAt)) (bQ : Binds K fdQ ["reader"] []) (kQ : PySem.W.keepIn K (.ref fXQ) = true) (mQ : mg "read_quoted" = some (.ref fXQ))
    (GM : FnOk P w K mg base (CXF P w) 6 fXM fdM ["reader"] (spR2 K CF CR 7 momAt)) (bM : Binds K fdM ["reader"] []) (kM : PySem.W.keepIn K (.ref fXM) = true) (mM : mg "read_moment" = some (.ref fXM))
    (GD : FnOk P w K mg base (CXF P w) 6 fXI fdI ["reader"] (spR2 K CF CR 1 idAt)) (bD : Binds K fdI ["reader"] []) (kD : PySem.W.keepIn K (.ref fXI) = true) (mD : mg "read_identity" = some (.ref fXI))
    (GU : FnOk P w K mg base (CXF P w) 6 fXU fdU ["reader"] (spR2 K CF CR 7 numAt)) (bU : Binds K fdU ["reader"] []) (kU : PySem.W.keepIn K (.ref fXU) = true) (mU : mg "read_number" = some (.ref fXU))
    (GK : FnOk P w K mg base CX0 2 fKR fdK ["kind", "how_many", "inner"] (spKR K)) (bK : Binds K fdK ["kind", "how_many", "inner"] []) (kK : PySem.W.keepIn K (.ref fKR) = true) (mK : mg "counted_row" = some (.ref fKR)) :
    FnOk P w K mg base (CXF P w) 9 f fd ["reader"] (spR2 K CF CR 7 atomAt) := by
  refine okX F scXA (fun vs H Q E h => ?_) (fun cdv A outer s H vs Q E hr h => ?_)
  · obtain ⟨r, a, p, bs, rfl, _⟩ := h
    rfl
  · obtain ⟨r, a, p, bs, rfl, ⟨dx, hr1⟩, hs, hp, hz, q⟩ := h
    have hr2 : Room 2 _ := hr.mono (by decide)
    have hr3 : Room 3 _ := hr.mono (by decide)
    have hr5 : Room 5 _ := hr.mono (by decide)
    have hr6 : Room 6 _ := hr.mono (by decide)
    refine ⟨_, pss_cons (ps_set (i := 1) scXA.nd rfl (Or.inl rfl) (pe_meth0 (pv 0) T.cR mS GS hr3 bS .nil passX))
      (pss_cons (ps_if (pt_cmpR op_eq (pv 1) (pgi kn rfl) (nomark _)) (pss_cons (ps_expr (pe_call GW hr5 rfl mW kW bW .nil passX (pa_cons (pv 0) (pa_cons pe_str pa_nil)))) (pss_one (ps_ret (pe_lst (pa_cons (pgi k0 rfl) pa_nil))))) pss_nil)
      (pss_cons (ps_if (pt_cmpR op_eq (pv 1) (pgi ky rfl) (nomark _)) (pss_cons (ps_expr (pe_call GW hr5 rfl mW kW bW .nil passX (pa_cons (pv 0) (pa_cons pe_str pa_nil)))) (pss_one (ps_ret (pe_lst (pa_cons (pgi k1 rfl) pa_nil))))) pss_nil)
      (pss_cons (ps_if (pt_cmpR op_eq (pv 1) (pgi kx rfl) (nomark _)) (pss_cons (ps_set (i := 2) scXA.nd rfl (Or.inl rfl) (pe_call GG hr6 rfl mG kG bG .nil passX (pa_cons (pv 0) pa_nil)))
        (pss_one (ps_ret (pe_call GK hr2 rfl mK kK bK .nil pass0 (pa_cons (pgi k3 rfl) (pa_cons (pe_callB call_len_seq (by rfl) T.len PySem.boot_len (pa_cons (pv 2) pa_nil)) (pa_cons (pv 2) pa_nil))))))) pss_nil)
      (pss_cons (ps_if (pt_cmpR op_eq (pv 1) (pgi kq rfl) (nomark _)) (pss_cons (ps_set (i := 2) scXA.nd rfl (Or.inl rfl) (pe_call GQ hr rfl mQ kQ bQ .nil passX (pa_cons (pv 0) pa_nil)))
        (pss_one (ps_ret (pe_call GK hr2 rfl mK kK bK .nil pass0 (pa_cons (pgi k4 rfl) (pa_cons (pe_callB call_len_seq (by rfl) T.len PySem.boot_len (pa_cons (pv 2) pa_nil)) (pa_cons (pv 2) pa_nil))))))) pss_nil)
      (pss_cons (ps_if (pt_cmpR op_eq (pv 1) (pgi kt rfl) (nomark _)) (pss_one (ps_ret (pe_call GM hr6 rfl mM kM bM .nil passX (pa_cons (pv 0) pa_nil)))) pss_nil)
      (pss_cons (ps_if (pt_cmpR op_eq (pv 1) (pgi ki rfl) (nomark _)) (pss_one (ps_ret (pe_call GD hr6 rfl mD kD bD .nil passX (pa_cons (pv 0) pa_nil)))) pss_nil)
      (pss_one (ps_ret (pe_call GU hr6 rfl mU kU bU .nil passX (pa_cons (pv 0) pa_nil)))))))))), ?_⟩
    refine ⟨_, rfl, r, dx, _, rfl, hr1, rf_no a p (by decide +kernel) (by decide +kernel), r, a, p, bs, rfl, ⟨dx, hr1⟩, hs, ?_⟩
    cases e : bs[p]? with
    | none =>
      obtain ⟨e1, e2⟩ := drop_end e hp
      rw [e1] at q
      have q : Err E CF (.int 1) (.int (p : Int)) := q
      rw [e2] at q
      exact q
    | some c =>
      have hlt := (List.getElem?_eq_some_iff.mp e).1
      have ed := drop_at e
      have q : Out E CF (if c = 110 then (Sw.just p [110, 111] (bs.drop p)).map fun _ => ([0], 2) else if c = 121 then (Sw.just p [121, 101, 115] (bs.drop p)).map fun _ => ([1], 3)
        else if c = 120 then (pairedAt p (bs.drop p)).map fun z => (ctd 3 z.1, z.2) else if c = 34 then (quoteAt p (bs.drop p)).map fun z => (ctd 4 z.1, z.2)
        else if c = 64 then momAt p (bs.drop p) else if c = 35 then idAt p (bs.drop p) else numAt p (bs.drop p) : Except Sw.Fault (List UInt8 × Nat)) fun (x : List UInt8 × Nat) => ∀ (t : Addr) (H' : Hp), RdAt CR H' r a (p + x.2) → Kp H H' r → H t = none → H' t = some (.lst (x.1.map bv)) → p + x.2 ≤ bs.length → x.1.length ≤ 7 * x.2 → Q (.ref t) H' := by
        rw [ed] at q ⊢
        exact q
      have fr : ∀ {H1 : Hp} {x : Addr}, Kp H H1 r → (∃ o, H1 r = some o) → H1 x = none → H x = none := fun {H1 x} k ⟨o, h⟩ hx => by
        cases e : H x with
        | none => rfl
        | some o' =>
          have := k _ _ e (fun z => by rw [z, h] at hx; cases hx)
          rw [hx] at this
          cases this
      refine ⟨_, rfl, rfl, _, rfl, ?_⟩
      rw [show (V.int 110) = bv 110 from rfl, bv_inj]
      by_cases c1 : c = 110
      · rw [decide_eq_true c1]
        rw [if_pos c1] at q
        have es : Str.ofString "no" = sB [110, 111] := by rw [Str.ofString_eq_toList]; rfl
        refine iteT ⟨_, rfl, r, a, p, bs, [110, 111], congrArg (fun t => [V.ref r, V.str t]) es, (by decide), ⟨dx, hr1⟩, hs, hp, ?_⟩
        cases ej : Sw.just p [110, 111] (bs.drop p) with
        | error e => rw [ej] at q; exact q
        | ok u =>
          rw [ej] at q
          rintro H1 ⟨d1, h1⟩ kp1 l1
          refine ⟨(by show 1 ≤ sizeLine; decide), fun x hx => ?_⟩
          exact q x _ ⟨d1, (upd_ne (ne_of_none h1 hx)).trans h1⟩ (fun b o e n => (upd_ne (ne_of_none (kp1 _ _ e n) hx)).trans (kp1 _ _ e n)) (fr kp1 ⟨_, h1⟩ hx) upd_same l1 (by show 1 ≤ 7 * 2; decide)
      rw [decide_eq_false c1]
      rw [if_neg c1] at q
      refine iteF ⟨_, rfl, rfl, _, rfl, ?_⟩
      rw [show (V.int 121) = bv 121 from rfl, bv_inj]
      by_cases c2 : c = 121
      · rw [decide_eq_true c2]
        rw [if_pos c2] at q
        have es : Str.ofString "yes" = sB [121, 101, 115] := by rw [Str.ofString_eq_toList]; rfl
        refine iteT ⟨_, rfl, r, a, p, bs, [121, 101, 115], congrArg (fun t => [V.ref r, V.str t]) es, (by decide), ⟨dx, hr1⟩, hs, hp, ?_⟩
        cases ej : Sw.just p [121, 101, 115] (bs.drop p) with
        | error e => rw [ej] at q; exact q
        | ok u =>
          rw [ej] at q
          rintro H1 ⟨d1, h1⟩ kp1 l1
          refine ⟨(by show 1 ≤ sizeLine; decide), fun x hx => ?_⟩
          exact q x _ ⟨d1, (upd_ne (ne_of_none h1 hx)).trans h1⟩ (fun b o e n => (upd_ne (ne_of_none (kp1 _ _ e n) hx)).trans (kp1 _ _ e n)) (fr kp1 ⟨_, h1⟩ hx) upd_same l1 (by show 1 ≤ 7 * 3; decide)
      rw [decide_eq_false c2]
      rw [if_neg c2] at q
      refine iteF ⟨_, rfl, rfl, _, rfl, ?_⟩
      rw [show (V.int 120) = bv 120 from rfl, bv_inj]
      by_cases c3 : c = 120
      · rw [decide_eq_true c3]
        rw [if_pos c3] at q
        refine iteT ⟨_, rfl, r, a, p, bs, rfl, ⟨dx, hr1⟩, hs, hp, hz, ?_⟩
        cases ej : pairedAt p (bs.drop p) with
        | error e => rw [ej] at q; exact q
        | ok u =>
          obtain ⟨m, n⟩ := u
          rw [ej] at q
          rintro t H1 ⟨d1, h1⟩ kp1 ht ht1 l1 hl
          have l1 : p + n ≤ bs.length := l1
          have hl : m.length ≤ 1 * n := hl
          refine ⟨_, rfl, t, _, rfl, .inl (SqL.of ht1), _, rfl, 3, m.length, t, m.map bv, by rw [List.length_map]; rfl, SqL.of ht1, by omega, by rw [List.length_map, sizeLine_eq]; omega, fun x H2 k2 hx h2 => ?_⟩
          have hn : 1 ≤ n := by
            rcases Nat.eq_zero_or_pos n with z | z
            · exfalso
              subst z
              unfold pairedAt at ej
              split at ej
              · cases ej
              · split at ej
                · cases ej
                · cases ej
            · exact z
          refine q x H2 ⟨d1, k2 _ _ h1⟩ (fun b o e n => k2 _ _ (kp1 _ _ e n)) (fr kp1 ⟨_, h1⟩ hx) ?_ l1 (ctd_len hl hn (by show n ≤ 65536; omega))
          rw [h2]
          exact congrArg (fun t => some (HO.lst t)) (ctd_map 3 m)
      rw [decide_eq_false c3]
      rw [if_neg c3] at q
      refine iteF ⟨_, rfl, rfl, _, rfl, ?_⟩
      rw [show (V.int 34) = bv 34 from rfl, bv_inj]
      by_cases c4 : c = 34
      · rw [decide_eq_true c4]
        rw [if_pos c4] at q
        refine iteT ⟨_, rfl, r, a, p, bs, rfl, ⟨dx, hr1⟩, hs, hp, hz, ?_⟩
        cases ej : quoteAt p (bs.drop p) with
        | error e => rw [ej] at q; exact q
        | ok u =>
          obtain ⟨m, n⟩ := u
          rw [ej] at q
          rintro t H1 ⟨d1, h1⟩ kp1 ht ht1 l1 hl
          have l1 : p + n ≤ bs.length := l1
          have hl : m.length ≤ 1 * n := hl
          refine ⟨_, rfl, t, _, rfl, .inl (SqL.of ht1), _, rfl, 4, m.length, t, m.map bv, by rw [List.length_map]; rfl, SqL.of ht1, by omega, by rw [List.length_map, sizeLine_eq]; omega, fun x H2 k2 hx h2 => ?_⟩
          have hn : 1 ≤ n := by
            unfold quoteAt at ej
            cases e1 : Sw.just p [34] (bs.drop p) with
            | error e => rw [e1] at ej; cases ej
            | ok u =>
              rw [e1] at ej
              dsimp only at ej
              cases e2 : Sw.quotedAt ((bs.drop p).length + 1) (p + 1) ((bs.drop p).drop 1) with
              | error e => rw [e2] at ej; cases ej
              | ok y =>
                rw [e2] at ej
                cases ej
                omega
          refine q x H2 ⟨d1, k2 _ _ h1⟩ (fun b o e n => k2 _ _ (kp1 _ _ e n)) (fr kp1 ⟨_, h1⟩ hx) ?_ l1 (ctd_len hl hn (by show n ≤ 65536; omega))
          rw [h2]
          exact congrArg (fun t => some (HO.lst t)) (ctd_map 4 m)
      rw [decide_eq_false c4]
      rw [if_neg c4] at q
      refine iteF ⟨_, rfl, rfl, _, rfl, ?_⟩
      rw [show (V.int 64) = bv 64 from rfl, bv_inj]
      by_cases c5 : c = 64
      · rw [decide_eq_true c5]
        rw [if_pos c5] at q
        exact iteT ⟨_, rfl, r, a, p, bs, rfl, ⟨dx, hr1⟩, hs, hp, hz, q⟩
      rw [decide_eq_false c5]
      rw [if_neg c5] at q
      refine iteF ⟨_, rfl, rfl, _, rfl, ?_⟩
      rw [show (V.int 35) = bv 35 from rfl, bv_inj]
      by_cases c6 : c = 35
      · rw [decide_eq_true c6]
        rw [if_pos c6] at q
        refine iteT ⟨_, rfl, r, a, p, bs, rfl, ⟨dx, hr1⟩, hs, hp, hz, ?_⟩
        cases ej : idAt p (bs.drop p) with
        | error e => rw [ej] at q; exact q
        | ok u =>
          rw [ej] at q
          intro t H1 rd1 kp1 ht ht1 l1 hl
          exact q t H1 rd1 kp1 ht ht1 l1 (by omega)
      rw [decide_eq_false c6]
      rw [if_neg c6] at q
      exact iteF ⟨_, rfl, r, a, p, bs, rfl, ⟨dx, hr1⟩, hs, hp, hz, q⟩
end
end L2.J

set_option Elab.async false
set_option linter.all false
set_option maxRecDepth 100000
set_option maxHeartbeats 2000000
namespace L2.J
open PySem PySem.Spec PyProof.Rows L2.XC
/-! ### holders that are begun -/
structure HD where
  named : Bool
  size : Nat
  row : List UInt8
  last : List UInt8
def kOf (named : Bool) : UInt8 := if named = true then 6 else 5
def closeOf (named : Bool) : UInt8 := if named = true then 125 else 93
def hf (d : HD) (R L : Addr) : List (Str × V) := [("kind", bv (kOf d.named)), ("size", .int (d.size : Int)), ("row", .ref R), ("last_name", .ref L)]
def HoAt (CH : Addr) (H : Hp) (h R L : Addr) (d : HD) : Prop := (∃ dx, H h = some (.ins CH dx (hf d R L))) ∧ H R = some (.lst (d.row.map bv)) ∧ H L = some (.lst (d.last.map bv))
def hEnc (d : HD) : List UInt8 := kOf d.named :: (Sw.vary d.size ++ d.row)
structure TxH (K : PySem.W.Frag) (mg : Str → Option Value) (CH : Addr) : Prop where
  cH : Cls K CH
  nKi : NoAttr K CH "kind"
  nSi : NoAttr K CH "size"
  nRo : NoAttr K CH "row"
  nLa : NoAttr K CH "last_name"
  mH : mg "Holder" = some (.ref CH)
  k5 : GI mg "LIST" 5
  k6 : GI mg "RECORD" 6
  lc : GI mg "LIST_CLOSE" 93
  rc : GI mg "RECORD_CLOSE" 125
  ln : GI mg "LONGEST_NAME" 255
  e6 : GI mg "WRONG_NAME" 6
def spHI (CH : Addr) : Sp := fun vs H Q _ => ∃ (m dx : Addr) (named : Bool), vs = [.ref m, bv (kOf named)] ∧ H m = some (.ins CH dx []) ∧
  ∀ (R L : Addr) (H' : Hp), H R = none → H L = none → R ≠ m → L ≠ m → R ≠ L → HoAt CH H' m R L ⟨named, 0, [], []⟩ → Kp H H' m → Q .non H'
def spXC (CH : Addr) : Sp := fun vs H Q _ => ∃ (h R L : Addr) (d : HD) (dx : Addr), vs = [.ref h] ∧ H h = some (.ins CH dx (hf d R L)) ∧ Q (bv (closeOf d.named)) H
def spXH (K : PySem.W.Frag) (CF CR CH : Addr) : Sp := fun vs H Q E => ∃ (r a h R L : Addr) (p : Nat) (bs : List UInt8) (d : HD), vs = [.ref r, .ref h] ∧ RdAt CR H r a p ∧ SqL K H a (bs.map bv) ∧ p ≤ bs.length ∧ HoAt CH H h R L d ∧ d.size < 34359738368 ∧ d.row.length ≤ 1000000 ∧
  Out E CF (Sw.just p [closeOf d.named] (bs.drop p)) fun _ => ∀ (t : Addr) (H' : Hp), RdAt CR H' r a (p + 1) → Kp H H' r → H t = none → H' t = some (.lst ((hEnc d).map bv)) → p + 1 ≤ bs.length → Q (.ref t) H'
def bareAt (p : Nat) (b : List UInt8) : Except Sw.Fault (List UInt8 × Nat) := if (b.takeWhile Sw.inName).length = b.length then .error ⟨1, p + b.length⟩ else .ok (b.takeWhile Sw.inName, (b.takeWhile Sw.inName).length)
def rawAt (p : Nat) (b : List UInt8) : Except Sw.Fault (List UInt8 × Nat) := match b with
  | [] => .error ⟨1, p⟩
  | c :: _ => if c = 34 then (match quoteAt p b with
      | .error e => .error e
      | .ok (m, n) => if Sw.bare m = true then .error ⟨2, p⟩ else .ok (m, n))
    else if Sw.isSmall c = true then bareAt p b else .error ⟨2, p⟩
def namedAt (last : List UInt8) (p : Nat) (b : List UInt8) : Except Sw.Fault (List UInt8 × Nat) := match rawAt p b with
  | .error e => .error e
  | .ok (n, l) => if 255 < n.length ∨ Sw.bytesBefore last n = false then .error ⟨6, p⟩ else .ok (n, l)
def spRN (K : PySem.W.Frag) (CF CR CH : Addr) : Sp := fun vs H Q E => ∃ (r a h R L : Addr) (p : Nat) (bs : List UInt8) (d : HD), vs = [.ref r, .ref h] ∧ RdAt CR H r a p ∧ SqL K H a (bs.map bv) ∧ p ≤ bs.length ∧ bs.length ≤ 65536 ∧ HoAt CH H h R L d ∧
  Out E CF (namedAt d.last p (bs.drop p)) fun (x : List UInt8 × Nat) => ∀ (t : Addr) (H' : Hp), RdAt CR H' r a (p + x.2) → Kp H H' r → H t = none → H' t = some (.lst (x.1.map bv)) → p + x.2 ≤ bs.length → x.1.length ≤ x.2 → x.1.length ≤ 255 → Q (.ref t) H'
theorem ho_ne_rd {CH CR : Addr} {G : Hp} {h R L r a dx : Addr} {d : HD} {p : Nat} (e : G h = some (.ins CH dx (hf d R L))) (e' : RdAt CR G r a p) : h ≠ r := by
  obtain ⟨dy, e'⟩ := e'
  exact ne_of e e' (by intro z; injection z with _ _ z3; exact absurd (congrArg List.length z3) (by show ¬ 4 = 2; decide))
theorem HoAt.kp {CH CR : Addr} {H H' : Hp} {h R L r a : Addr} {d : HD} {p : Nat} (o : HoAt CH H h R L d) (rd : RdAt CR H r a p) (k : Kp H H' r) : HoAt CH H' h R L d := by
  obtain ⟨⟨dx, h1⟩, h2, h3⟩ := o
  have nr := ho_ne_rd h1 rd
  obtain ⟨dy, e⟩ := rd
  exact ⟨⟨dx, k _ _ h1 nr⟩, k _ _ h2 (ne_of h2 e (by intro z; cases z)), k _ _ h3 (ne_of h3 e (by intro z; cases z))⟩
theorem Kp.free {H H1 : Hp} {r x : Addr} (k : Kp H H1 r) (h : ∃ o, H1 r = some o) (hx : H1 x = none) : H x = none := by
  obtain ⟨o, h⟩ := h
  cases e : H x with
  | none => rfl
  | some o' =>
    have := k _ _ e (fun z => by rw [z, h] at hx; cases hx)
    rw [hx] at this
    cases this
theorem seq_join {t rest : TS} {D : Ends} {σ : St} {H : Hp} (I : St → Hp → Prop) (go : ∀ σ' H', I σ' H' → rest D σ' H') (h : (∀ σ' H', I σ' H' → rest D σ' H') → t { D with nx := rest D } σ H) : tSeq t rest D σ H := h go
section
variable {P : Program} {w : World} {K : PySem.W.Frag} {mg : Str → Option Value} {base : Heap} {CF CR CH fFI : Addr}
theorem scHI : FnScope ["self", "kind"] ["self", "kind"] (defScope sHI) := ⟨rfl, rfl, rfl, by decide +kernel, rfl, by decide +kernel, by decide +kernel⟩
theorem ok_HI {f : Addr} {fd : FuncData} (F : Fun K "__init__" "Holder.__init__" sHI f fd) (TH : TxH K mg CH) : FnOk P w K mg base CX0 1 f fd ["self", "kind"] (spHI CH) := by
  refine F.ok scHI (fun vs H Q E h => ?_) (fun cdv A outer s H vs Q E hr h => ?_)
  · obtain ⟨m, dx, named, rfl, _⟩ := h
    rfl
  · obtain ⟨m, dx, named, rfl, hm, q⟩ := h
    refine ⟨_, pss_cons (ps_fld (pv 0) (pv 1) rfl) (pss_cons (ps_fld (pv 0) pe_int rfl) (pss_cons (ps_fld (pv 0) (pe_lst pa_nil) rfl) (pss_one (ps_fld (pv 0) (pe_lst pa_nil) rfl)))), ?_⟩
    refine ⟨_, rfl, _, rfl, m, CH, dx, [], rfl, hm, TH.cH, TH.nKi, (by show 0 < 1000; decide), ?_⟩
    refine ⟨_, rfl, m, CH, dx, _, rfl, upd_same, TH.cH, TH.nSi, (by show 1 < 1000; decide), ?_⟩
    refine ⟨Nat.zero_le _, fun n hn => ?_⟩
    have nnm : n ≠ m := fun z => by rw [z, upd_same] at hn; cases hn
    refine ⟨_, rfl, m, CH, dx, _, rfl, by rw [upd_ne (Ne.symm nnm)]; exact upd_same, TH.cH, TH.nRo, (by show 2 < 1000; decide), ?_⟩
    refine ⟨Nat.zero_le _, fun l hl => ?_⟩
    have nlm : l ≠ m := fun z => by rw [z, upd_same] at hl; cases hl
    have nnl : n ≠ l := fun z => by rw [← z, upd_ne nnm, upd_same] at hl; cases hl
    refine ⟨_, rfl, m, CH, dx, _, rfl, by rw [upd_ne (Ne.symm nlm)]; exact upd_same, TH.cH, TH.nLa, (by show 3 < 1000; decide), ?_⟩
    rw [upd_ne nnm, upd_ne nnm] at hn
    rw [upd_ne nlm, upd_ne (Ne.symm nnl), upd_ne nlm, upd_ne nlm] at hl
    refine q n l _ hn hl nnm nlm nnl ⟨⟨dx, upd_same⟩, (by rw [upd_ne nnm, upd_ne nnl, upd_ne nnm, upd_same]; rfl), (by rw [upd_ne nlm, upd_same]; rfl)⟩ fun b o e n' => ?_
    have nbl : b ≠ l := fun z => by
      rw [z, hl] at e
      cases e
    have nbn : b ≠ n := fun z => by
      rw [z, hn] at e
      cases e
    rw [upd_ne n', upd_ne nbl, upd_ne n', upd_ne nbn, upd_ne n', upd_ne n']
    exact e
theorem scXC : FnScope ["holder"] ["holder"] (defScope sXC) := ⟨rfl, rfl, rfl, by decide +kernel, rfl, by decide +kernel, by decide +kernel⟩
theorem ok_XC {f : Addr} {fd : FuncData} (F : Fun K "closing_sign" "closing_sign" sXC f fd) (TH : TxH K mg CH) : FnOk P w K mg base CX0 1 f fd ["holder"] (spXC CH) := by
  refine F.ok scXC (fun vs H Q E h => ?_) (fun cdv A outer s H vs Q E hr h => ?_)
  · obtain ⟨h, R, L, d, dx, rfl, _⟩ := h
    rfl
  · obtain ⟨h, R, L, d, dx, rfl, hh, q⟩ := h
    refine ⟨_, pss_one (ps_ret (pe_ifExp (pt_cmpR op_eq (pe_fld (pv 0) rfl) (pgi TH.k5 rfl) (nomark _)) (pgi TH.lc rfl) (pgi TH.rc rfl))), ?_⟩
    refine ⟨_, rfl, h, CH, dx, _, _, rfl, hh, TH.cH, TH.nKi, rfl, rfl, _, rfl, ?_⟩
    rw [show (V.int 5) = bv 5 from rfl, bv_inj]
    cases hn : d.named with
    | true =>
      rw [hn] at q
      exact iteF q
    | false =>
      rw [hn] at q
      exact iteT q
theorem scXH : FnScope ["reader", "holder"] ["reader", "holder"] (defScope sXH) := ⟨rfl, rfl, rfl, by decide +kernel, rfl, by decide +kernel, by decide +kernel⟩
theorem ok_XH {f fRG fXC fKR : Addr} {fd fdG fdC fdK : FuncData} (F : Fun K "end_holder" "end_holder" sXH f fd) (T : TxR K mg CF CR fFI) (TH : TxH K mg CH)
    (GG : FnOk P w K mg base (CXF P w) 4 fRG fdG ["self", "sign"] (spRG K CF CR)) (bG : Binds K fdG ["self", "sign"] []) (mG : Meth K CR "read_sign" fRG)
    (GC : FnOk P w K mg base CX0 1 fXC fdC ["holder"] (spXC CH)) (bC : Binds K fdC ["holder"] []) (kC : PySem.W.keepIn K (.ref fXC) = true) (mC : mg "closing_sign" = some (.ref fXC))
    (GK : FnOk P w K mg base CX0 2 fKR fdK ["kind", "how_many", "inner"] (spKR K)) (bK : Binds K fdK ["kind", "how_many", "inner"] []) (kK : PySem.W.keepIn K (.ref fKR) = true) (mK : mg "counted_row" = some (.ref fKR)) :
    FnOk P w K mg base (CXF P w) 5 f fd ["reader", "holder"] (spXH K CF CR CH) := by
  refine okX F scXH (fun vs H Q E h => ?_) (fun cdv A outer s H vs Q E hr h => ?_)
  · obtain ⟨r, a, h, R, L, p, bs, d, rfl, _⟩ := h
    rfl
  · obtain ⟨r, a, h, R, L, p, bs, d, rfl, rd, hs, hp, ho, hsz, hrl, q⟩ := h
    have hr1' : Room 1 _ := hr.mono (by decide)
    have hr2 : Room 2 _ := hr.mono (by decide)
    refine ⟨_, pss_cons (ps_expr (pe_meth (pv 0) T.cR mG GG hr bG .nil passX (pa_cons (pe_call GC hr1' rfl mC kC bC .nil pass0 (pa_cons (pv 1) pa_nil)) pa_nil)))
      (pss_one (ps_ret (pe_call GK hr2 rfl mK kK bK .nil pass0 (pa_cons (pe_fld (pv 1) rfl) (pa_cons (pe_fld (pv 1) rfl) (pa_cons (pe_fld (pv 1) rfl) pa_nil)))))), ?_⟩
    obtain ⟨⟨dx, h1⟩, h2, h3⟩ := id ho
    obtain ⟨dr, hr1⟩ := id rd
    refine ⟨_, rfl, r, dr, _, rfl, hr1, rf_no a p (by decide +kernel) (by decide +kernel), _, rfl, h, R, L, d, dx, rfl, h1, r, a, p, bs, closeOf d.named, rfl, rd, hs, hp, ?_⟩
    cases ej : Sw.just p [closeOf d.named] (bs.drop p) with
    | error e => rw [ej] at q; exact q
    | ok u =>
      rw [ej] at q
      intro H1 rd1 k1
      obtain ⟨⟨dx1, g1⟩, g2, g3⟩ := ho.kp rd k1
      have hp1 : p + 1 ≤ bs.length := by
        cases eb : bs[p]? with
        | none =>
          rw [(drop_end eb hp).1] at ej
          cases ej
        | some d => exact (List.getElem?_eq_some_iff.mp eb).1
      refine ⟨_, rfl, h, CH, dx1, _, _, rfl, g1, TH.cH, TH.nKi, rfl, _, rfl, h, CH, dx1, _, _, rfl, g1, TH.cH, TH.nSi, rfl, _, rfl, h, CH, dx1, _, _, rfl, g1, TH.cH, TH.nRo, rfl, (kOf d.named).toNat, d.size, R, d.row.map bv, rfl, SqL.of g2, hsz, by rw [List.length_map, sizeLine_eq]; omega, fun x H2 k2 hx h2' => ?_⟩
      obtain ⟨d1, e1⟩ := id rd1
      refine q x H2 ⟨d1, k2 _ _ e1⟩ (fun b o e n => k2 _ _ (k1 _ _ e n)) (k1.free ⟨_, e1⟩ hx) ?_ hp1
      rw [h2']
      unfold hEnc
      rw [List.map_cons, List.map_append]
      rfl
theorem scXN : FnScope ["reader", "start"] ["reader"] (defScope sXN) := ⟨rfl, rfl, rfl, by decide +kernel, rfl, by decide +kernel, by decide +kernel⟩
theorem ok_XN {f fSB fPB fIG : Addr} {fd fdS fdB fdG : FuncData} (F : Fun K "read_bare_name" "read_bare_name" sXN f fd) (T : TxR K mg CF CR fFI)
    (GS : FnOk P w K mg base (CXF P w) 3 fSB fdS ["self"] (spSB K CF CR)) (bS : Binds K fdS ["self"] []) (mS : Meth K CR "see_byte" fSB)
    (GB : FnOk P w K mg base (CXF P w) 3 fPB fdB ["self", "how_many"] (spPB K CF CR)) (bB : Binds K fdB ["self", "how_many"] []) (mB : Meth K CR "pass_bytes" fPB)
    (GG : FnOk P w K mg base CX0 2 fIG fdG ["byte"] (spB1 Sw.inName)) (bG : Binds K fdG ["byte"] []) (kG : PySem.W.keepIn K (.ref fIG) = true) (mG : mg "is_name_sign" = some (.ref fIG)) :
    FnOk P w K mg base (CXF P w) 4 f fd ["reader"] (spR2 K CF CR 1 bareAt) := by
  refine okX F scXN (fun vs H Q E h => ?_) (fun cdv A outer s H vs Q E hr h => ?_)
  · obtain ⟨r, a, p, bs, rfl, _⟩ := h
    rfl
  · obtain ⟨r, a, p, bs, rfl, ⟨dx, hr1⟩, hs, hp, hz, q⟩ := h
    have hr2 : Room 2 _ := hr.mono (by decide)
    have hr3 : Room 3 _ := hr.mono (by decide)
    refine ⟨_, pss_cons (ps_set (i := 1) scXN.nd rfl (Or.inl rfl) (pe_fld (pv 0) rfl))
      (pss_cons (ps_while PassesOwn.leaving (pt_val (pe_call GG hr2 rfl mG kG bG .nil pass0 (pa_cons (pe_meth0 (pv 0) T.cR mS GS hr3 bS .nil passX) pa_nil)))
        (pss_one (ps_expr (pe_meth (pv 0) T.cR mB GB hr3 bB .nil passX (pa_cons pe_int pa_nil)))))
      (pss_one (ps_ret (pe_slice sl_list (pe_fld (pv 0) rfl) (po_some (pv 1)) (po_some (pe_fld (pv 0) rfl)))))), ?_⟩
    unfold bareAt at q
    refine ⟨_, rfl, r, CR, dx, _, _, rfl, hr1, T.cR, T.nPl, rf_place a p, ?_⟩
    refine ⟨fun m σ G => ∃ n : Nat, σ = [some (.ref r), some (.int (p : Int))] ∧ RdAt CR G r a n ∧ Kp H G r ∧ p ≤ n ∧ n ≤ bs.length ∧ m = bs.length - n ∧ ((bs.drop p).takeWhile Sw.inName).length = n - p + ((bs.drop n).takeWhile Sw.inName).length, ⟨bs.length - p, p, rfl, ⟨dx, hr1⟩, Kp.refl _ _, Nat.le_refl _, hp, rfl, by omega⟩, ?_⟩
    rintro m σ G ⟨n, rfl, ⟨dg, hg⟩, kG, hn1, hn2, hm, et⟩
    have hsG := sq_kp hs kG hr1
    refine ⟨_, rfl, r, dg, _, rfl, hg, rf_no a n (by decide +kernel) (by decide +kernel), r, a, n, bs, rfl, ⟨dg, hg⟩, hsG, ?_⟩
    cases eb : bs[n]? with
    | none =>
      obtain ⟨d1, d2⟩ := drop_end eb hn2
      rw [d1] at et
      have et : ((bs.drop p).takeWhile Sw.inName).length = n - p + 0 := et
      rw [if_pos (by rw [et, List.length_drop]; omega)] at q
      have q : Err E CF (.int 1) (.int ((p + (bs.drop p).length : Nat) : Int)) := q
      rw [List.length_drop, show p + (bs.length - p) = bs.length by omega] at q
      exact q
    | some c =>
      have hlt := (List.getElem?_eq_some_iff.mp eb).1
      have ed := drop_at eb
      rw [ed, List.takeWhile_cons] at et
      refine ⟨c, rfl, _, rfl, ?_⟩
      cases hc : Sw.inName c with
      | true =>
        rw [hc, if_pos rfl, List.length_cons] at et
        refine iteT ⟨_, fun σ' G' h => h, ?_⟩
        refine ⟨_, rfl, r, dg, _, rfl, hg, rf_no a n (by decide +kernel) (by decide +kernel), r, a, n, 1, bs, rfl, ⟨dg, hg⟩, hsG, hn2, ?_⟩
        rw [if_neg (by omega)]
        intro G' rd' k'
        exact ⟨bs.length - (n + 1), by omega, n + 1, rfl, rd', kG.trans k', by omega, hlt, rfl, by omega⟩
      | false =>
        rw [hc] at et
        have et : ((bs.drop p).takeWhile Sw.inName).length = n - p + 0 := et
        rw [if_neg (by rw [et, List.length_drop]; omega)] at q
        have q : ∀ (t : Addr) (H' : Hp), RdAt CR H' r a (p + ((bs.drop p).takeWhile Sw.inName).length) → Kp H H' r → H t = none → H' t = some (.lst (((bs.drop p).takeWhile Sw.inName).map bv)) → p + ((bs.drop p).takeWhile Sw.inName).length ≤ bs.length → ((bs.drop p).takeWhile Sw.inName).length ≤ 1 * ((bs.drop p).takeWhile Sw.inName).length → Q (.ref t) H' := q
        rw [takeW (bs.drop p) Sw.inName, et, show n - p + 0 = n - p by omega] at q
        refine iteF ⟨_, rfl, r, CR, dg, _, _, rfl, hg, T.cR, T.nRow, rf_row a n, _, rfl, _, rfl, _, rfl, r, CR, dg, _, _, rfl, hg, T.cR, T.nPl, rf_place a n, _, rfl, a, _, rfl, hsG, fun x hx => ?_⟩
        rw [cut_bytes bs p (n - p) (by omega) rfl (by rw [show p + (n - p) = n by omega])]
        have hl : ((bs.drop p).take (n - p)).length = n - p := by rw [List.length_take, List.length_drop]; omega
        rw [hl, show p + (n - p) = n by omega] at q
        exact q x _ ⟨dg, (upd_ne (ne_of_none hg hx)).trans hg⟩ (fun b o e n => (upd_ne (ne_of_none (kG _ _ e n) hx)).trans (kG _ _ e n)) (kG.free ⟨_, hg⟩ hx) upd_same hn2 (by omega)
theorem scRN : FnScope ["reader", "holder", "start", "first", "name"] ["reader", "holder"] (defScope sRN) := ⟨rfl, rfl, rfl, by decide +kernel, rfl, by decide +kernel, by decide +kernel⟩
theorem ok_RN {f fSB fXQ fSI fIL fXN : Addr} {fd fdS fdQ fdI' fdL fdN fdI : FuncData} (F : Fun K "read_name" "read_name" sRN f fd) (T : TxR K mg CF CR fFI) (TH : TxH K mg CH) (FI : Fun K "__init__" "Fault.__init__" sFI fFI fdI) (bI : Binds K fdI ["self", "kind", "place"] []) (kq : GI mg "QUOTE" 34)
    (GS : FnOk P w K mg base (CXF P w) 3 fSB fdS ["self"] (spSB K CF CR)) (bS : Binds K fdS ["self"] []) (mS : Meth K CR "see_byte" fSB)
    (GQ : FnOk P w K mg base (CXF P w) 8 fXQ fdQ ["reader"] (spR2 K CF CR 1 quoteAt)) (bQ : Binds K fdQ ["reader"] []) (kQ : PySem.W.keepIn K (.ref fXQ) = true) (mQ : mg "read_quoted" = some (.ref fXQ))
    (GA : FnOk P w K mg base CX0 3 fSI fdI' ["name"] (spSI K)) (bA : Binds K fdI' ["name"] []) (kA : PySem.W.keepIn K (.ref fSI) = true) (mA : mg "stands_as_it_is" = some (.ref fSI))
    (GL : FnOk P w K mg base CX0 1 fIL fdL ["byte"] (spB1 Sw.isSmall)) (bL : Binds K fdL ["byte"] []) (kL : PySem.W.keepIn K (.ref fIL) = true) (mL : mg "is_small_letter" = some (.ref fIL))
    (GN : FnOk P w K mg base (CXF P w) 4 fXN fdN ["reader"] (spR2 K CF CR 1 bareAt)) (bN : Binds K fdN ["reader"] []) (kN : PySem.W.keepIn K (.ref fXN) = true) (mN : mg "read_bare_name" = some (.ref fXN)) :
    FnOk P w K mg base (CXF P w) 9 f fd ["reader", "holder"] (spRN K CF CR CH) := by
  have GI : FnOk P w K mg base CX0 1 fFI fdI ["self", "kind", "place"] (spXI CF) := ok_FI FI T
  refine okX F scRN (fun vs H Q E h => ?_) (fun cdv A outer s H vs Q E hr h => ?_)
  · obtain ⟨r, a, h, R, L, p, bs, d, rfl, _⟩ := h
    rfl
  · obtain ⟨r, a, h, R, L, p, bs, d, rfl, rd, hs, hp, hz, ho, q⟩ := h
    have hr1' : Room 1 _ := hr.mono (by decide)
    have hr2 : Room 2 _ := hr.mono (by decide)
    have hr3 : Room 3 _ := hr.mono (by decide)
    have hr4 : Room 4 _ := hr.mono (by decide)
    refine ⟨_, pss_cons (ps_set (i := 2) scRN.nd rfl (Or.inl rfl) (pe_fld (pv 0) rfl))
      (pss_cons (ps_set (i := 3) scRN.nd rfl (Or.inl rfl) (pe_meth0 (pv 0) T.cR mS GS hr3 bS .nil passX))
      (pss_cons (ps_if (pt_cmpR op_eq (pv 3) (pgi kq rfl) (nomark _))
        (pss_cons (ps_set (i := 4) scRN.nd rfl (Or.inl rfl) (pe_call GQ hr rfl mQ kQ bQ .nil passX (pa_cons (pv 0) pa_nil)))
        (pss_one (ps_if (pt_val (pe_call GA hr3 rfl mA kA bA .nil pass0 (pa_cons (pv 4) pa_nil))) (pss_one (ps_raise T.xc GI bI hr2 flies_cx rfl rfl T.mF (pa_cons (pgi T.e2 rfl) (pa_cons (pv 2) pa_nil)))) pss_nil)))
        (pss_one (ps_if (pt_val (pe_call GL hr1' rfl mL kL bL .nil pass0 (pa_cons (pv 3) pa_nil)))
          (pss_one (ps_set (i := 4) scRN.nd rfl (Or.inl rfl) (pe_call GN hr4 rfl mN kN bN .nil passX (pa_cons (pv 0) pa_nil))))
          (pss_one (ps_raise T.xc GI bI hr2 flies_cx rfl rfl T.mF (pa_cons (pgi T.e2 rfl) (pa_cons (pv 2) pa_nil)))))))
      (pss_cons (ps_if (PW.pt (pw_or (pt_cmpR op_gt (pe_callB call_len_seq (by rfl) T.len PySem.boot_len (pa_cons (pv 4) pa_nil)) (pgi TH.ln rfl) (nomark _)) (pw_or1 (pt_cmpR (op_leL hr.units0) (pv 4) (pe_fld (pv 1) rfl) (nomark _)))))
        (pss_one (ps_raise T.xc GI bI hr2 flies_cx rfl rfl T.mF (pa_cons (pgi TH.e6 rfl) (pa_cons (pv 2) pa_nil)))) pss_nil)
      (pss_one (ps_ret (pv 4)))))), ?_⟩
    obtain ⟨dr, hr1⟩ := id rd
    refine ⟨_, rfl, r, CR, dr, _, _, rfl, hr1, T.cR, T.nPl, rf_place a p, ?_⟩
    refine ⟨_, rfl, r, dr, _, rfl, hr1, rf_no a p (by decide +kernel) (by decide +kernel), r, a, p, bs, rfl, rd, hs, ?_⟩
    unfold namedAt at q
    cases e : bs[p]? with
    | none =>
      obtain ⟨e1, e2⟩ := drop_end e hp
      rw [e1] at q
      have q : Err E CF (.int 1) (.int (p : Int)) := q
      rw [e2] at q
      exact q
    | some c =>
      have hlt := (List.getElem?_eq_some_iff.mp e).1
      have ed := drop_at e
      have er : rawAt p (bs.drop p) = if c = 34 then (match quoteAt p (bs.drop p) with
          | .error e => .error e
          | .ok (m, n) => if Sw.bare m = true then .error ⟨2, p⟩ else .ok (m, n))
        else if Sw.isSmall c = true then bareAt p (bs.drop p) else .error ⟨2, p⟩ := by
        rw [ed]
        rfl
      dsimp only [gName]
      refine seq_join (fun σ' G => ∃ (t : Addr) (n : List UInt8) (l : Nat), σ' = [some (.ref r), some (.ref h), some (.int (p : Int)), some (bv c), some (.ref t)] ∧ rawAt p (bs.drop p) = .ok (n, l) ∧ RdAt CR G r a (p + l) ∧ Kp H G r ∧ H t = none ∧ G t = some (.lst (n.map bv)) ∧ p + l ≤ bs.length ∧ n.length ≤ 1 * l) ?_ (fun k => ?_)
      · rintro σ' G ⟨t, n, l, rfl, ew, rdg, kG, ht, hGt, hl, hnl⟩
        rw [ew] at q
        dsimp only at q
        obtain ⟨⟨dx, g1⟩, g2, g3⟩ := ho.kp rd kG
        refine seq_or (a := decide (255 < n.length)) (b := !Sw.bytesBefore d.last n) (fun Q' h' => ⟨_, rfl, t, _, rfl, .inl (SqL.of hGt), _, _, rfl, rfl, _, rfl, ?_⟩) (fun _ Q' h' => ⟨_, rfl, _, rfl, h, CH, dx, _, _, rfl, g1, TH.cH, TH.nLa, rfl, t, L, bInts n, bInts d.last, rfl, rfl, by rw [hGt, bv_ints], by rw [g3, bv_ints], _, rfl, by rw [le_before]; exact h'⟩) ?_
        · rw [List.length_map, show decide ((255 : Int) < (n.length : Int)) = decide (255 < n.length) from decide_eq_decide.mpr (by omega)]
          exact h'
        · by_cases hc : 255 < n.length ∨ Sw.bytesBefore d.last n = false
          · rw [if_pos hc] at q
            have hb : (decide (255 < n.length) || !Sw.bytesBefore d.last n) = true := by
              rw [Bool.or_eq_true, decide_eq_true_eq, Bool.not_eq_true']
              exact hc
            rw [hb]
            exact iteT ⟨_, rfl, _, _, rfl, q⟩
          · rw [if_neg hc] at q
            have hb : (decide (255 < n.length) || !Sw.bytesBefore d.last n) = false := by
              rw [Bool.or_eq_false_iff, decide_eq_false_iff_not, Bool.not_eq_false']
              refine ⟨fun z => hc (.inl z), ?_⟩
              cases e : Sw.bytesBefore d.last n with
              | true => rfl
              | false => exact absurd (.inr e) hc
            rw [hb]
            have h255 : n.length ≤ 255 := by
              rcases Nat.lt_or_ge 255 n.length with z | z
              · exact absurd (.inl z) hc
              · exact z
            exact iteF ⟨_, rfl, q t G rdg kG ht hGt hl (by show n.length ≤ l; omega) h255⟩
      · refine ⟨_, rfl, rfl, _, rfl, ?_⟩
        rw [show (V.int 34) = bv 34 from rfl, bv_inj]
        by_cases c1 : c = 34
        · rw [decide_eq_true c1]
          rw [if_pos c1] at er
          refine iteT ⟨_, rfl, r, a, p, bs, rfl, rd, hs, hp, hz, ?_⟩
          cases eq : quoteAt p (bs.drop p) with
          | error e =>
            rw [eq] at er
            have er : rawAt p (bs.drop p) = .error e := er
            rw [er] at q
            exact q
          | ok y =>
            obtain ⟨m, n⟩ := y
            rw [eq] at er
            have er : rawAt p (bs.drop p) = if Sw.bare m = true then .error ⟨2, p⟩ else .ok (m, n) := er
            rintro t G rdg kG ht hGt hl hnl
            have hl : p + n ≤ bs.length := hl
            have hnl : m.length ≤ 1 * n := hnl
            refine ⟨_, rfl, t, m, rfl, SqL.of hGt, by omega, fun G' kG' => ⟨_, rfl, ?_⟩⟩
            by_cases hb : Sw.bare m = true
            · rw [if_pos hb] at er
              rw [hb]
              rw [er] at q
              exact iteT ⟨_, rfl, _, _, rfl, q⟩
            · rw [if_neg hb] at er
              have hb : Sw.bare m = false := by
                cases e : Sw.bare m with
                | true => exact absurd e hb
                | false => rfl
              rw [hb]
              obtain ⟨dg, hg⟩ := rdg
              exact iteF (k _ G' ⟨t, m, n, rfl, er, ⟨dg, kG' _ _ hg⟩, fun b o e n => kG' _ _ (kG _ _ e n), ht, kG' _ _ hGt, hl, hnl⟩)
        · rw [decide_eq_false c1]
          rw [if_neg c1] at er
          refine iteF ⟨_, rfl, c, rfl, _, rfl, ?_⟩
          cases hc : Sw.isSmall c with
          | true =>
            rw [if_pos hc] at er
            refine iteT ⟨_, rfl, r, a, p, bs, rfl, rd, hs, hp, hz, ?_⟩
            rw [er] at q
            cases eq : bareAt p (bs.drop p) with
            | error e =>
              rw [eq] at q
              exact q
            | ok y =>
              obtain ⟨m, n⟩ := y
              rintro t G rdg kG ht hGt hl hnl
              exact k _ G ⟨t, m, n, rfl, by rw [er, eq], rdg, kG, ht, hGt, hl, hnl⟩
          | false =>
            rw [if_neg (by rw [hc]; decide)] at er
            rw [er] at q
            exact iteF ⟨_, rfl, _, _, rfl, q⟩
end
end L2.J

set_option Elab.async false
set_option linter.all false
set_option maxRecDepth 100000
set_option maxHeartbeats 2000000
namespace L2.J
open PySem PySem.Spec PyProof.Rows L2.XC
def KpS (H H' : Hp) (S : List Addr) : Prop := ∀ b o, H b = some o → b ∉ S → H' b = some o
theorem KpS.free {H H1 : Hp} {S : List Addr} {x : Addr} (k : KpS H H1 S) (h : ∀ s ∈ S, ∃ o, H1 s = some o) (hx : H1 x = none) : H x = none := by
  cases e : H x with
  | none => rfl
  | some o' =>
    by_cases hs : x ∈ S
    · obtain ⟨o, h⟩ := h x hs
      rw [h] at hx
      cases hx
    · have := k _ _ e hs
      rw [hx] at this
      cases this
theorem sq_keep {K : PySem.W.Frag} {H H' : Hp} {a r h R C C' dx dx' : Addr} {fs fs' : List (Str × V)} {xs : List V} (hs : SqL K H a xs) (ha : (∀ H', SqL K H' a xs) ∨ a ≠ R) (k : KpS H H' [r, h, R]) (hr : H r = some (.ins C dx fs)) (hh : H h = some (.ins C' dx' fs')) : SqL K H' a xs := by
  rcases ha with ha | ha
  · exact ha H'
  have go : ∀ o, H a = some o → (∀ C dx fs, o ≠ .ins C dx fs) → H' a = some o := fun o e n => k a o e (fun z => by
    rcases List.mem_cons.mp z with z | z
    · rw [z, hr] at e
      exact n _ _ _ (Option.some.inj e).symm
    · rcases List.mem_cons.mp z with z | z
      · rw [z, hh] at e
        exact n _ _ _ (Option.some.inj e).symm
      · exact ha (List.mem_singleton.mp z))
  rcases hs with (h1 | ⟨o, h1⟩) | h1
  · exact .inl (.inl (go _ h1 (by intro _ _ _ z; cases z)))
  · exact .inl (.inr ⟨o, go _ h1 (by intro _ _ _ z; cases z)⟩)
  · exact .inr h1
def memAt (d : HD) (p : Nat) (b : List UInt8) : Except Sw.Fault (HD × Nat) := if d.named = true then (match namedAt d.last p b with
  | .error e => .error e
  | .ok (n, l) => match Sw.just (p + l) [58, 32] (b.drop l) with
    | .error e => .error e
    | .ok _ => .ok ({ d with row := d.row ++ (Sw.vary n.length ++ n), last := n }, l + 2)) else .ok (d, 0)
theorem just2 (p : Nat) (x y : UInt8) (b : List UInt8) : Sw.just p [x, y] b = match Sw.just p [x] b with
    | .error e => .error e
    | .ok _ => Sw.just (p + 1) [y] (b.drop 1) := by
  cases b with
  | nil => rfl
  | cons c r =>
    show (if x = c then Sw.just (p + 1) [y] r else .error ⟨2, p⟩ : Except Sw.Fault Unit) = match (if x = c then Sw.just (p + 1) [] r else .error ⟨2, p⟩ : Except Sw.Fault Unit) with
      | .error e => .error e
      | .ok _ => Sw.just (p + 1) [y] r
    by_cases h : x = c
    · rw [if_pos h, if_pos h]
      unfold Sw.just
      rfl
    · rw [if_neg h, if_neg h]
theorem just_le {p : Nat} {bs : List UInt8} {x : UInt8} {u : Unit} (hp : p ≤ bs.length) (e : Sw.just p [x] (bs.drop p) = .ok u) : p + 1 ≤ bs.length := by
  cases eb : bs[p]? with
  | none =>
    rw [(drop_end eb hp).1] at e
    cases e
  | some d => exact (List.getElem?_eq_some_iff.mp eb).1
def spBM (K : PySem.W.Frag) (CF CR CH : Addr) : Sp := fun vs H Q E => ∃ (r a h R L : Addr) (p : Nat) (bs : List UInt8) (d : HD), vs = [.ref r, .ref h] ∧ RdAt CR H r a p ∧ SqL K H a (bs.map bv) ∧ p ≤ bs.length ∧ bs.length ≤ 65536 ∧ HoAt CH H h R L d ∧ R ≠ L ∧ ((∀ H', SqL K H' a (bs.map bv)) ∨ a ≠ R) ∧ d.row.length ≤ 600000 ∧
  Out E CF (memAt d p (bs.drop p)) fun (x : HD × Nat) => ∀ (L' : Addr) (H' : Hp), RdAt CR H' r a (p + x.2) → HoAt CH H' h R L' x.1 → R ≠ L' → KpS H H' [r, h, R] → (L' = L ∨ H L' = none) → p + x.2 ≤ bs.length → x.1.row.length ≤ d.row.length + 7 * x.2 → Q .non H'
section
variable {P : Program} {w : World} {K : PySem.W.Frag} {mg : Str → Option Value} {base : Heap} {CF CR CH fFI : Addr}
theorem scBM : FnScope ["reader", "holder", "name"] ["reader", "holder"] (defScope sBM) := ⟨rfl, rfl, rfl, by decide +kernel, rfl, by decide +kernel, by decide +kernel⟩
theorem ok_BM {f fRG fRN fVR : Addr} {fd fdG fdN fdV : FuncData} (F : Fun K "begin_member" "begin_member" sBM f fd) (T : TxR K mg CF CR fFI) (TH : TxH K mg CH) (kc : GI mg "COLON" 58) (kb : GI mg "BLANK" 32)
    (GG : FnOk P w K mg base (CXF P w) 4 fRG fdG ["self", "sign"] (spRG K CF CR)) (bG : Binds K fdG ["self", "sign"] []) (mG : Meth K CR "read_sign" fRG)
    (GN : FnOk P w K mg base (CXF P w) 9 fRN fdN ["reader", "holder"] (spRN K CF CR CH)) (bN : Binds K fdN ["reader", "holder"] []) (kN : PySem.W.keepIn K (.ref fRN) = true) (mN : mg "read_name" = some (.ref fRN))
    (GV : FnOk P w K mg base CX0 1 fVR fdV ["amount"] spVR) (bV : Binds K fdV ["amount"] []) (kV : PySem.W.keepIn K (.ref fVR) = true) (mV : mg "vary_row" = some (.ref fVR)) :
    FnOk P w K mg base (CXF P w) 10 f fd ["reader", "holder"] (spBM K CF CR CH) := by
  refine okX F scBM (fun vs H Q E h => ?_) (fun cdv A outer s H vs Q E hr h => ?_)
  · obtain ⟨r, a, h, R, L, p, bs, d, rfl, _⟩ := h
    rfl
  · obtain ⟨r, a, h, R, L, p, bs, d, rfl, rd, hs, hp, hz, ho, hRL, haR, hrl, q⟩ := h
    have hr1' : Room 1 _ := hr.mono (by decide)
    have hr4 : Room 4 _ := hr.mono (by decide)
    refine ⟨_, pss_one (ps_if (pt_cmpR op_eq (pe_fld (pv 1) rfl) (pgi TH.k6 rfl) (nomark _))
      (pss_cons (ps_set (i := 2) scBM.nd rfl (Or.inl rfl) (pe_call GN hr rfl mN kN bN .nil passX (pa_cons (pv 0) (pa_cons (pv 1) pa_nil))))
      (pss_cons (ps_fld (pv 1) (pv 2) rfl)
      (pss_cons (ps_expr (pe_bm PySem.F.plainAttrs_list PySem.F.slot_list_extend PySem.F.type_list_extend mt_extend (pe_fld (pv 1) rfl) (pa_cons (pe_op op_catL (pe_call GV hr1' rfl mV kV bV .nil pass0 (pa_cons (pe_callB call_len_seq (by rfl) T.len PySem.boot_len (pa_cons (pv 2) pa_nil)) pa_nil)) (pv 2)) pa_nil)))
      (pss_cons (ps_expr (pe_meth (pv 0) T.cR mG GG hr4 bG .nil passX (pa_cons (pgi kc rfl) pa_nil)))
      (pss_one (ps_expr (pe_meth (pv 0) T.cR mG GG hr4 bG .nil passX (pa_cons (pgi kb rfl) pa_nil)))))))) pss_nil), ?_⟩
    obtain ⟨⟨dx, h1⟩, h2, h3⟩ := id ho
    obtain ⟨dr, hr1⟩ := id rd
    have nhr : h ≠ r := ho_ne_rd h1 rd
    have nRr : R ≠ r := ne_of h2 hr1 (by intro z; cases z)
    have nLr : L ≠ r := ne_of h3 hr1 (by intro z; cases z)
    have nRh : R ≠ h := ne_of h2 h1 (by intro z; cases z)
    have nLh : L ≠ h := ne_of h3 h1 (by intro z; cases z)
    unfold memAt at q
    refine ⟨_, rfl, h, CH, dx, _, _, rfl, h1, TH.cH, TH.nKi, rfl, rfl, _, rfl, ?_⟩
    rw [show (V.int 6) = bv 6 from rfl, bv_inj]
    cases hn : d.named with
    | false =>
      rw [if_neg (by rw [hn]; decide)] at q
      exact iteF (q L H rd ho hRL (fun b o e _ => e) (.inl rfl) hp (by show d.row.length ≤ d.row.length + 7 * 0; omega))
    | true =>
      rw [if_pos hn] at q
      refine iteT ?_
      refine ⟨_, rfl, _, rfl, r, a, h, R, L, p, bs, d, rfl, rd, hs, hp, hz, ho, ?_⟩
      cases en : namedAt d.last p (bs.drop p) with
      | error e => rw [en] at q; exact q
      | ok y =>
        obtain ⟨n, l⟩ := y
        rw [en] at q
        dsimp only at q
        intro t H1 rd1 k1 ht ht1 l1 hnl hn255
        have l1 : p + l ≤ bs.length := l1
        have rd1 : RdAt CR H1 r a (p + l) := rd1
        have hnl : n.length ≤ l := hnl
        have hn255 : n.length ≤ 255 := hn255
        have ht1 : H1 t = some (.lst (n.map bv)) := ht1
        obtain ⟨d1, hr1'⟩ := id rd1
        have g1 := k1 _ _ h1 nhr
        have g2 := k1 _ _ h2 nRr
        have nth : t ≠ h := fun z => by rw [z, h1] at ht; cases ht
        have ntR : t ≠ R := fun z => by rw [z, h2] at ht; cases ht
        have ntr : t ≠ r := fun z => by rw [z, hr1] at ht; cases ht
        refine ⟨_, rfl, _, rfl, h, CH, dx, _, rfl, g1, TH.cH, TH.nLa, (by show 4 < 1000; decide), ?_⟩
        generalize hH2 : upd H1 h (.ins CH dx (putF "last_name" (.ref t) (hf d R L))) = H2
        have a1 : H2 h = some (.ins CH dx (hf { d with last := n } R t)) := by rw [← hH2, upd_same]; rfl
        have a2 : H2 R = some (.lst (d.row.map bv)) := by rw [← hH2, upd_ne nRh]; exact g2
        have a3 : H2 t = some (.lst (n.map bv)) := by rw [← hH2, upd_ne nth]; exact ht1
        have a4 : H2 r = some (.ins CR d1 (rf a (p + l))) := by rw [← hH2, upd_ne (Ne.symm nhr)]; exact hr1'
        have ka : ∀ b o, H b = some o → b ≠ r → b ≠ h → H2 b = some o := fun b o e n1 n2 => by rw [← hH2, upd_ne n2]; exact k1 b o e n1
        refine ⟨_, rfl, h, CH, dx, _, _, rfl, a1, TH.cH, TH.nRo, rfl, .inl ⟨rfl, _, SqL.of a2⟩, _, rfl, t, _, rfl, .inl (SqL.of a3), n.length, by rw [List.length_map]; rfl, by omega, fun x H3 k3 hx h3' => ?_⟩
        have l5 := vary_len5 (n := n.length) (by omega)
        refine ⟨_, rfl, x, t, _, _, rfl, rfl, SqL.of h3', SqL.of (k3 _ _ a3), ?_, fun y hy => ?_⟩
        · rw [List.length_map, List.length_map, sizeLine_eq]
          omega
        generalize hH4 : upd H3 y (.lst ((Sw.vary n.length).map bv ++ n.map bv)) = H4
        have k4 : Same H2 H4 := fun b o e => by rw [← hH4]; exact (upd_ne (ne_of_none (k3 _ _ e) hy)).trans (k3 _ _ e)
        have hy4 : H4 y = some (.lst ((Sw.vary n.length ++ n).map bv)) := by rw [← hH4, upd_same, List.map_append]
        refine ⟨R, y, _, _, rfl, rfl, k4 _ _ a2, hy4, ?_, ?_⟩
        · rw [List.length_map, List.length_map, List.length_append, sizeLine_eq]
          omega
        generalize hH5 : upd H4 R (.lst (d.row.map bv ++ (Sw.vary n.length ++ n).map bv)) = H5
        have b1 : H5 h = some (.ins CH dx (hf { d with row := d.row ++ (Sw.vary n.length ++ n), last := n } R t)) := by rw [← hH5, upd_ne (Ne.symm nRh)]; exact k4 _ _ a1
        have b2 : H5 R = some (.lst ((d.row ++ (Sw.vary n.length ++ n)).map bv)) := by rw [← hH5, upd_same, List.map_append (l₁ := d.row)]
        have b3 : H5 t = some (.lst (n.map bv)) := by rw [← hH5, upd_ne ntR]; exact k4 _ _ a3
        have b4 : H5 r = some (.ins CR d1 (rf a (p + l))) := by rw [← hH5, upd_ne (Ne.symm nRr)]; exact k4 _ _ a4
        have kb : KpS H H5 [r, h, R] := fun b o e hb => by
          rw [List.mem_cons, List.mem_cons, List.mem_singleton, not_or, not_or] at hb
          rw [← hH5, upd_ne hb.2.2]
          exact k4 _ _ (ka b o e hb.1 hb.2.1)
        have ho5 : HoAt CH H5 h R t { d with row := d.row ++ (Sw.vary n.length ++ n), last := n } := ⟨⟨dx, b1⟩, b2, b3⟩
        have hs5 := sq_keep hs haR kb hr1 h1
        rw [just2, List.drop_drop, List.drop_drop] at q
        refine ⟨_, rfl, r, d1, _, rfl, b4, rf_no a _ (by decide +kernel) (by decide +kernel), r, a, p + l, bs, 58, rfl, ⟨d1, b4⟩, hs5, l1, ?_⟩
        cases e1 : Sw.just (p + l) [58] (bs.drop (p + l)) with
        | error e => rw [e1] at q; exact q
        | ok u =>
          rw [e1] at q
          dsimp only at q
          intro H6 rd6 k6
          have l6 := just_le l1 e1
          have hs6 := sq_kp hs5 k6 b4
          obtain ⟨d6, e6⟩ := id rd6
          refine ⟨_, rfl, r, d6, _, rfl, e6, rf_no a _ (by decide +kernel) (by decide +kernel), r, a, p + l + 1, bs, 32, rfl, rd6, hs6, l6, ?_⟩
          cases e2 : Sw.just (p + l + 1) [32] (bs.drop (p + l + 1)) with
          | error e => rw [e2] at q; exact q
          | ok u =>
            rw [e2] at q
            dsimp only at q
            intro H7 rd7 k7
            have l7 := just_le l6 e2
            have k57 := k6.trans k7
            refine q t H7 (by show RdAt CR H7 r a (p + (l + 2)); rw [show p + (l + 2) = p + l + 1 + 1 by omega]; exact rd7) (ho5.kp ⟨d1, b4⟩ k57) (Ne.symm ntR) (fun b o e hb => k57 _ _ (kb b o e hb) (fun z => hb (by rw [z]; exact List.mem_cons_self))) (.inr ht) (by show p + (l + 2) ≤ _; omega) ?_
            show (d.row ++ (Sw.vary n.length ++ n)).length ≤ d.row.length + 7 * (l + 2)
            rw [List.length_append, List.length_append]
            omega
end
end L2.J

set_option Elab.async false
set_option linter.all false
set_option maxRecDepth 100000
set_option maxHeartbeats 2000000
namespace L2.J
open PySem PySem.Spec PyProof.Rows L2.XC
def hd0 (named : Bool) : HD := ⟨named, 0, [], []⟩
def openAt (named : Bool) (p : Nat) (b : List UInt8) : Except Sw.Fault ((List UInt8 ⊕ HD) × Nat) := match b with
  | [] => .error ⟨1, p⟩
  | d :: _ => if d = closeOf named then .ok (.inl (hEnc (hd0 named)), 2) else (memAt (hd0 named) p b).map fun z => (.inr z.1, z.2 + 1)
def beginAt (dep p : Nat) (b : List UInt8) : Except Sw.Fault ((List UInt8 ⊕ HD) × Nat) := match b with
  | [] => .error ⟨1, p⟩
  | c :: r => if ¬ (atomB c = true ∨ c = 91 ∨ c = 123) then .error ⟨2, p⟩ else if 64 ≤ dep then .error ⟨7, p⟩ else if atomB c = true then (atomAt p b).map fun z => (.inl z.1, z.2) else openAt (decide (c = 123)) (p + 1) r
def spXB (K : PySem.W.Frag) (CF CR CH : Addr) : Sp := fun vs H Q E => ∃ (r a g : Addr) (p : Nat) (bs : List UInt8) (hs : List Addr), vs = [.ref r, .ref g] ∧ RdAt CR H r a p ∧ SqL K H a (bs.map bv) ∧ p ≤ bs.length ∧ bs.length ≤ 65536 ∧ ((∀ H', SqL K H' a (bs.map bv)) ∨ a ≠ g) ∧ H g = some (.lst (hs.map V.ref)) ∧
  Out E CF (beginAt hs.length p (bs.drop p)) fun (x : (List UInt8 ⊕ HD) × Nat) => match x.1 with
    | .inl u => ∀ (t : Addr) (H' : Hp), RdAt CR H' r a (p + x.2) → Kp H H' r → H t = none → H' t = some (.lst (u.map bv)) → p + x.2 ≤ bs.length → u.length ≤ 7 * x.2 → Q (.ref t) H'
    | .inr d => ∀ (h R L : Addr) (H' : Hp), H h = none → H R = none → H L = none → R ≠ L → RdAt CR H' r a (p + x.2) → HoAt CH H' h R L d → H' g = some (.lst ((hs ++ [h]).map V.ref)) → KpS H H' [r, g] → p + x.2 ≤ bs.length → d.row.length ≤ 7 * x.2 → Q .non H'
theorem sq_fresh {K : PySem.W.Frag} {H : Hp} {a R : Addr} {xs : List V} (h : SqL K H a xs) (hR : H R = none) : (∀ H', SqL K H' a xs) ∨ a ≠ R := by
  rcases h with (h | ⟨o, h⟩) | h
  · exact .inr (fun z => by rw [z, hR] at h; cases h)
  · exact .inr (fun z => by rw [z, hR] at h; cases h)
  · exact .inl fun H' => .inr h
section
variable {P : Program} {w : World} {K : PySem.W.Frag} {mg : Str → Option Value} {base : Heap} {CF CR CH fFI : Addr}
theorem scXB : FnScope ["reader", "begun", "first", "holder"] ["reader", "begun"] (defScope sXB) := ⟨rfl, rfl, rfl, by decide +kernel, rfl, by decide +kernel, by decide +kernel⟩
theorem ok_XB {f fSB fRG fX0 fXA fXC fXH fBM fHI : Addr} {fd fdS fdG fd0 fdA fdC fdE fdM fdH fdI : FuncData} (F : Fun K "begin_value" "begin_value" sXB f fd) (T : TxR K mg CF CR fFI) (TH : TxH K mg CH) (FI : Fun K "__init__" "Fault.__init__" sFI fFI fdI) (bI : Binds K fdI ["self", "kind", "place"] [])
    (lo : GI mg "LIST_OPEN" 91) (ro : GI mg "RECORD_OPEN" 123) (kd : GI mg "DEEPEST" 64) (e7 : GI mg "TOO_DEEP" 7)
    (GS : FnOk P w K mg base (CXF P w) 3 fSB fdS ["self"] (spSB K CF CR)) (bS : Binds K fdS ["self"] []) (mS : Meth K CR "see_byte" fSB)
    (GG : FnOk P w K mg base (CXF P w) 4 fRG fdG ["self", "sign"] (spRG K CF CR)) (bG : Binds K fdG ["self", "sign"] []) (mG : Meth K CR "read_sign" fRG)
    (G0 : FnOk P w K mg base CX0 2 fX0 fd0 ["byte"] (spB2 atomB)) (b0 : Binds K fd0 ["byte"] []) (k0 : PySem.W.keepIn K (.ref fX0) = true) (m0 : mg "begins_atom" = some (.ref fX0))
    (GA : FnOk P w K mg base (CXF P w) 9 fXA fdA ["reader"] (spR2 K CF CR 7 atomAt)) (bA : Binds K fdA ["reader"] []) (kA : PySem.W.keepIn K (.ref fXA) = true) (mA : mg "read_atom" = some (.ref fXA))
    (MH : Mk K CH fHI) (GH : FnOk P w K mg base CX0 1 fHI fdH ["self", "kind"] (spHI CH)) (bH : Binds K fdH ["self", "kind"] [])
    (GC : FnOk P w K mg base CX0 1 fXC fdC ["holder"] (spXC CH)) (bC : Binds K fdC ["holder"] []) (kC : PySem.W.keepIn K (.ref fXC) = true) (mC : mg "closing_sign" = some (.ref fXC))
    (GE : FnOk P w K mg base (CXF P w) 5 fXH fdE ["reader", "holder"] (spXH K CF CR CH)) (bE : Binds K fdE ["reader", "holder"] []) (kE : PySem.W.keepIn K (.ref fXH) = true) (mE : mg "end_holder" = some (.ref fXH))
    (GM : FnOk P w K mg base (CXF P w) 10 fBM fdM ["reader", "holder"] (spBM K CF CR CH)) (bM : Binds K fdM ["reader", "holder"] []) (kM : PySem.W.keepIn K (.ref fBM) = true) (mM : mg "begin_member" = some (.ref fBM)) :
    FnOk P w K mg base (CXF P w) 11 f fd ["reader", "begun"] (spXB K CF CR CH) := by
  have GI : FnOk P w K mg base CX0 1 fFI fdI ["self", "kind", "place"] (spXI CF) := ok_FI FI T
  refine okX F scXB (fun vs H Q E h => ?_) (fun cdv A outer s H vs Q E hr h => ?_)
  · obtain ⟨r, a, g, p, bs, hs, rfl, _⟩ := h
    rfl
  · obtain ⟨r, a, g, p, bs, hs, rfl, rd, hsq, hp, hz, haG, hg, q⟩ := h
    have hr1' : Room 1 _ := hr.mono (by decide)
    have hr2 : Room 2 _ := hr.mono (by decide)
    have hr3 : Room 3 _ := hr.mono (by decide)
    have hr4 : Room 4 _ := hr.mono (by decide)
    have hr5 : Room 5 _ := hr.mono (by decide)
    have hr9 : Room 9 _ := hr.mono (by decide)
    refine ⟨_, pss_cons (ps_set (i := 2) scXB.nd rfl (Or.inl rfl) (pe_meth0 (pv 0) T.cR mS GS hr3 bS .nil passX))
      (pss_cons (ps_if (PW.pt (pw_and (pt_not (pt_val (pe_call G0 hr2 rfl m0 k0 b0 .nil pass0 (pa_cons (pv 2) pa_nil)))) (pw_and1 (pt_cmpR op_notIn_seq (pv 2) (pe_tup (pa_cons (pgi lo rfl) (pa_cons (pgi ro rfl) pa_nil))) (by with_unfolding_all rfl)))))
        (pss_one (ps_raise T.xc GI bI hr2 flies_cx rfl rfl T.mF (pa_cons (pgi T.e2 rfl) (pa_cons (pe_fld (pv 0) rfl) pa_nil)))) pss_nil)
      (pss_cons (ps_if (pt_cmpR op_ge (pe_callB call_len_seq (by rfl) T.len PySem.boot_len (pa_cons (pv 1) pa_nil)) (pgi kd rfl) (nomark _))
        (pss_one (ps_raise T.xc GI bI hr2 flies_cx rfl rfl T.mF (pa_cons (pgi e7 rfl) (pa_cons (pe_fld (pv 0) rfl) pa_nil)))) pss_nil)
      (pss_cons (ps_if (pt_val (pe_call G0 hr2 rfl m0 k0 b0 .nil pass0 (pa_cons (pv 2) pa_nil))) (pss_one (ps_ret (pe_call GA hr9 rfl mA kA bA .nil passX (pa_cons (pv 0) pa_nil)))) pss_nil)
      (pss_cons (ps_expr (pe_meth (pv 0) T.cR mG GG hr4 bG .nil passX (pa_cons (pv 2) pa_nil)))
      (pss_cons (ps_set (i := 3) scXB.nd rfl (Or.inl rfl) (pe_make MH GH hr2 rfl TH.mH bH .nil pass0 (pa_cons (pe_ifExp (pt_cmpR op_eq (pv 2) (pgi lo rfl) (nomark _)) (pgi TH.k5 rfl) (pgi TH.k6 rfl)) pa_nil)))
      (pss_cons (ps_if (pt_cmpR op_eq (pe_meth0 (pv 0) T.cR mS GS hr3 bS .nil passX) (pe_call GC hr1' rfl mC kC bC .nil pass0 (pa_cons (pv 3) pa_nil)) (nomark _)) (pss_one (ps_ret (pe_call GE hr5 rfl mE kE bE .nil passX (pa_cons (pv 0) (pa_cons (pv 3) pa_nil))))) pss_nil)
      (pss_cons (ps_expr (pe_bm PySem.F.plainAttrs_list PySem.F.slot_list_append PySem.F.type_list_append mt_append (pv 1) (pa_cons (pv 3) pa_nil)))
      (pss_cons (ps_expr (pe_call GM hr rfl mM kM bM .nil passX (pa_cons (pv 0) (pa_cons (pv 3) pa_nil))))
      (pss_one (ps_ret pe_non)))))))))), ?_⟩
    obtain ⟨dr, hr1⟩ := id rd
    have ngr : g ≠ r := ne_of hg hr1 (by intro z; cases z)
    refine ⟨_, rfl, r, dr, _, rfl, hr1, rf_no a p (by decide +kernel) (by decide +kernel), r, a, p, bs, rfl, rd, hsq, ?_⟩
    cases e : bs[p]? with
    | none =>
      obtain ⟨e1, e2⟩ := drop_end e hp
      rw [e1] at q
      have q : Err E CF (.int 1) (.int (p : Int)) := q
      rw [e2] at q
      exact q
    | some c =>
      have hlt := (List.getElem?_eq_some_iff.mp e).1
      have ed := drop_at e
      have eq : beginAt hs.length p (bs.drop p) = if ¬ (atomB c = true ∨ c = 91 ∨ c = 123) then .error ⟨2, p⟩ else if 64 ≤ hs.length then .error ⟨7, p⟩ else if atomB c = true then (atomAt p (bs.drop p)).map fun z => (.inl z.1, z.2) else openAt (decide (c = 123)) (p + 1) (bs.drop (p + 1)) := by
        rw [ed]
        rfl
      rw [eq] at q
      dsimp only [gName]
      refine seq_join (fun σ' G => σ' = [some (.ref r), some (.ref g), some (bv c), none] ∧ Same H G ∧ (atomB c = true ∨ c = 91 ∨ c = 123)) ?_ (fun k => ?_)
      · rintro σ' G ⟨rfl, kG, hc⟩
        rw [if_neg (fun z => z hc)] at q
        have hgG := kG _ _ hg
        have hrG := kG _ _ hr1
        refine ⟨_, rfl, g, _, rfl, .inl (SqL.of hgG), _, _, rfl, rfl, _, rfl, ?_⟩
        rw [List.length_map]
        by_cases h64 : 64 ≤ hs.length
        · rw [decide_eq_true (by omega)]
          rw [if_pos h64] at q
          exact iteT ⟨_, rfl, r, CR, dr, _, _, rfl, hrG, T.cR, T.nPl, rf_place a p, _, _, rfl, q⟩
        · rw [decide_eq_false (by omega)]
          rw [if_neg h64] at q
          refine iteF ⟨_, rfl, c, rfl, fun G2 kG2 => ⟨_, rfl, ?_⟩⟩
          have k2 : Same H G2 := kG.trans kG2
          cases hat : atomB c with
          | true =>
            rw [if_pos hat] at q
            refine iteT ⟨_, rfl, r, a, p, bs, rfl, ⟨dr, k2 _ _ hr1⟩, k2.seq hsq, hp, hz, ?_⟩
            cases ea : atomAt p (bs.drop p) with
            | error e => rw [ea] at q; exact q
            | ok y =>
              obtain ⟨u, n⟩ := y
              rw [ea] at q
              intro t H1 rd1 k1 ht ht1 l1 hl
              exact q t H1 rd1 (fun b o e n => k1 _ _ (k2 _ _ e) n) (k2.free ht) ht1 l1 hl
          | false =>
            rw [if_neg (by rw [hat]; decide)] at q
            have hc : c = 91 ∨ c = 123 := by
              rcases hc with z | z
              · rw [hat] at z; cases z
              · exact z
            refine iteF ?_
            have rd2 : RdAt CR G2 r a p := ⟨dr, k2 _ _ hr1⟩
            refine ⟨_, rfl, r, dr, _, rfl, k2 _ _ hr1, rf_no a p (by decide +kernel) (by decide +kernel), _, rfl, r, a, p, bs, c, rfl, rd2, k2.seq hsq, hp, ?_⟩
            rw [ed, just_cons]
            have e0 : ∀ (n : Nat) (l : List UInt8), Sw.just n [] l = .ok () := fun n l => by unfold Sw.just; rfl
            rw [e0]
            intro H1 rd1 k1
            obtain ⟨d1, hrd1⟩ := id rd1
            have kp1 : Kp H H1 r := fun b o e n => k1 _ _ (k2 _ _ e) n
            have hs1 := sq_kp hsq kp1 hr1
            have hg1 := kp1 _ _ hg ngr
            refine ⟨_, rfl, rfl, _, rfl, ?_⟩
            rw [show (V.int 91) = bv 91 from rfl, bv_inj]
            by_cases c91 : c = 91
            case' pos =>
              have ek : bv (kOf (decide (c = 123))) = V.int 5 := by rw [c91]; rfl
              rw [decide_eq_true c91]
              refine iteT ?_
            case' neg =>
              have ek : bv (kOf (decide (c = 123))) = V.int 6 := by rw [hc.resolve_left c91]; rfl
              rw [decide_eq_false c91]
              refine iteF ?_
            all_goals (
              intro x dx hx hdx nxd
              refine ⟨x, dx, decide (c = 123), congrArg (fun t => [V.ref x, t]) ek.symm, upd_same, fun R L H2 hR hL nRx nLx nRL ho kk => ⟨rfl, ?_⟩⟩
              generalize decide (c = 123) = named at q ek ho
              have kx : Same H1 (upd (upd H1 dx (.own x)) x (.ins CH dx [])) := fun b o e => by
                rw [upd_ne (ne_of_none e hx), upd_ne (ne_of_none e hdx)]
                exact e
              have k12 : Same H1 H2 := fun b o e => kk _ _ (kx _ _ e) (ne_of_none e hx)
              have kp2 : Kp H H2 r := fun b o e n => k12 _ _ (kp1 _ _ e n)
              have hr2' := k12 _ _ hrd1
              have rd2 : RdAt CR H2 r a (p + 1) := ⟨d1, hr2'⟩
              have hs2 := k12.seq hs1
              have hg2 := k12 _ _ hg1
              have hxH : H x = none := kp1.free ⟨_, hrd1⟩ hx
              have hRH : H R = none := kp1.free ⟨_, hrd1⟩ (kx.free hR)
              have hLH : H L = none := kp1.free ⟨_, hrd1⟩ (kx.free hL)
              obtain ⟨⟨dh, o1⟩, o2, o3⟩ := id ho
              refine ⟨_, rfl, r, d1, _, rfl, hr2', rf_no a _ (by decide +kernel) (by decide +kernel), r, a, p + 1, bs, rfl, rd2, hs2, ?_⟩
              cases eb : bs[p + 1]? with
              | none =>
                obtain ⟨e1, e2⟩ := drop_end eb hlt
                rw [e1] at q
                have q : Err E CF (.int 1) (.int ((p + 1 : Nat) : Int)) := q
                rw [e2] at q
                exact q
              | some dd =>
                have hlt2 := (List.getElem?_eq_some_iff.mp eb).1
                have ed2 := drop_at eb
                have eo : openAt named (p + 1) (bs.drop (p + 1)) = if dd = closeOf named then .ok (.inl (hEnc (hd0 named)), 2) else (memAt (hd0 named) (p + 1) (bs.drop (p + 1))).map fun z => (.inr z.1, z.2 + 1) := by
                  rw [ed2]
                  rfl
                rw [eo] at q
                refine ⟨_, rfl, x, R, L, hd0 named, dh, rfl, o1, rfl, _, rfl, ?_⟩
                show (if decide (bv dd = bv (closeOf named)) = true then _ else _)
                rw [bv_inj]
                by_cases hdd : dd = closeOf named
                · rw [decide_eq_true hdd]
                  rw [if_pos hdd] at q
                  refine iteT ⟨_, rfl, _, rfl, r, a, x, R, L, p + 1, bs, hd0 named, rfl, rd2, hs2, hlt, ho, (by show 0 < 34359738368; decide), (by show 0 ≤ 1000000; decide), ?_⟩
                  rw [ed2, hdd]
                  show Out E CF (Sw.just (p + 1) [closeOf named] (closeOf named :: bs.drop (p + 1 + 1))) _
                  rw [just_cons, e0]
                  intro t H3 rd3 k3 ht ht3 l3
                  have q : ∀ (t : Addr) (H' : Hp), RdAt CR H' r a (p + 2) → Kp H H' r → H t = none → H' t = some (.lst ((hEnc (hd0 named)).map bv)) → p + 2 ≤ bs.length → (hEnc (hd0 named)).length ≤ 7 * 2 → Q (.ref t) H' := q
                  refine q t H3 rd3 (kp2.trans k3) (kp2.free ⟨_, hr2'⟩ ht) ht3 l3 ?_
                  have := vary_len5 (n := 0) (by decide)
                  unfold hEnc hd0
                  rw [List.length_cons, List.length_append]
                  show (Sw.vary 0).length + 0 + 1 ≤ _
                  omega
                · rw [decide_eq_false hdd]
                  rw [if_neg hdd] at q
                  refine iteF ⟨_, rfl, .inl ⟨rfl, _, SqL.of hg2⟩, _, rfl, g, _, _, rfl, rfl, hg2, by rw [List.length_map, sizeLine_eq]; omega, ?_⟩
                  generalize hH3 : upd H2 g (.lst (hs.map V.ref ++ [V.ref x])) = H3
                  have hg3 : H3 g = some (.lst ((hs ++ [x]).map V.ref)) := by rw [← hH3, upd_same, List.map_append]; rfl
                  have ngx : g ≠ x := fun z => by rw [z, hxH] at hg; cases hg
                  have ngR : g ≠ R := fun z => by rw [z, hRH] at hg; cases hg
                  have ngL : g ≠ L := fun z => by rw [z, hLH] at hg; cases hg
                  have k3 : ∀ b o, H2 b = some o → b ≠ g → H3 b = some o := fun b o e n => by rw [← hH3, upd_ne n]; exact e
                  have ho3 : HoAt CH H3 x R L (hd0 named) := ⟨⟨dh, k3 _ _ o1 (Ne.symm ngx)⟩, k3 _ _ o2 (Ne.symm ngR), k3 _ _ o3 (Ne.symm ngL)⟩
                  have hr3' := k3 _ _ hr2' (Ne.symm ngr)
                  have hs3 : SqL K H3 a (bs.map bv) := sq_keep (r := r) (h := x) (R := g) hs2 haG (fun b o e hb => k3 _ _ e (fun z => hb (by simp [z]))) hr2' o1
                  refine ⟨_, rfl, _, rfl, r, a, x, R, L, p + 1, bs, hd0 named, rfl, ⟨d1, hr3'⟩, hs3, hlt, hz, ho3, nRL, sq_fresh hsq hRH, (by show 0 ≤ 600000; decide), ?_⟩
                  cases em : memAt (hd0 named) (p + 1) (bs.drop (p + 1)) with
                  | error e => rw [em] at q; exact q
                  | ok y =>
                    obtain ⟨d', n⟩ := y
                    rw [em] at q
                    intro L' H4 rd4 ho4 nRL' k4 hL' l4 hl4
                    have q : ∀ (h R L : Addr) (H' : Hp), H h = none → H R = none → H L = none → R ≠ L → RdAt CR H' r a (p + (n + 1)) → HoAt CH H' h R L d' → H' g = some (.lst ((hs ++ [h]).map V.ref)) → KpS H H' [r, g] → p + (n + 1) ≤ bs.length → d'.row.length ≤ 7 * (n + 1) → Q .non H' := q
                    rw [show p + (n + 1) = p + 1 + n by omega] at q
                    have hl4 : d'.row.length ≤ 0 + 7 * n := hl4
                    refine q x R L' H4 hxH hRH ?_ nRL' rd4 ho4 (k4 _ _ hg3 (by simp [ngr, ngx, ngR])) ?_ l4 (by omega)
                    · rcases hL' with rfl | hL'
                      · exact hLH
                      · cases eL : H L' with
                        | none => rfl
                        | some o =>
                          exfalso
                          by_cases z : L' = r
                          · rw [z, hr3'] at hL'; cases hL'
                          · by_cases z2 : L' = g
                            · rw [z2, hg3] at hL'; cases hL'
                            · rw [k3 _ _ (kp2 _ _ eL z) z2] at hL'; cases hL'
                    · intro b o e hb
                      rw [List.mem_cons, List.mem_singleton, not_or] at hb
                      refine k4 _ _ (k3 _ _ (kp2 _ _ e hb.1) hb.2) ?_
                      rw [List.mem_cons, List.mem_cons, List.mem_singleton, not_or, not_or]
                      exact ⟨hb.1, (fun z => by rw [z, hxH] at e; cases e), (fun z => by rw [z, hRH] at e; cases e)⟩)
      · refine ⟨_, rfl, c, rfl, fun G kG => ⟨_, rfl, ?_⟩⟩
        cases hat : atomB c with
        | true => exact iteF (iteF (k _ G ⟨rfl, kG, .inl hat⟩))
        | false =>
          refine iteT ⟨_, rfl, (by show 2 ≤ sizeLine; decide), fun t ht => ⟨t, _, rfl, .inr (SqT.of upd_same), rfl, rfl, _, rfl, ?_⟩⟩
          have ei : (if true = true then !inV (bv c) [V.int 91, V.int 123] else inV (bv c) [V.int 91, V.int 123]) = !([91, 123].contains c.toNat) := by
            rw [if_pos rfl]
            exact congrArg (!·) (inV_nat c.toNat [91, 123])
          show (if (if true = true then !inV (bv c) [V.int 91, V.int 123] else inV (bv c) [V.int 91, V.int 123]) = true then _ else _)
          rw [ei]
          by_cases hc : c = 91 ∨ c = 123
          · have ec : [91, 123].contains c.toNat = true := by
              rcases hc with rfl | rfl <;> rfl
            rw [ec]
            exact iteF (k _ _ ⟨rfl, fun b o e => (upd_ne (ne_of_none (kG _ _ e) ht)).trans (kG _ _ e), .inr hc⟩)
          · have hn2 : ∀ (k : Nat) (d : UInt8), d.toNat = k → ¬ c = d → ¬ c.toNat = k := fun k d e z y => z (UInt8.toNat_inj.mp (y.trans e.symm))
            have ec : [91, 123].contains c.toNat = false := by
              simp [hn2 91 91 rfl (fun z => hc (.inl z)), hn2 123 123 rfl (fun z => hc (.inr z))]
            rw [ec]
            rw [if_pos (fun z => z.elim (fun y => by rw [hat] at y; cases y) hc)] at q
            exact iteT ⟨_, rfl, r, CR, dr, _, _, rfl, (upd_ne (ne_of_none (kG _ _ hr1) ht)).trans (kG _ _ hr1), T.cR, T.nPl, rf_place a p, _, _, rfl, q⟩
end
end L2.J

set_option Elab.async false
set_option linter.all false
set_option maxRecDepth 100000
set_option maxHeartbeats 2000000
namespace L2.J
open PySem PySem.Spec PyProof.Rows L2.XC
def HD.more (d : HD) (u : List UInt8) : HD := { d with size := d.size + 1, row := d.row ++ u }
def endAt (d : HD) (u : List UInt8) (p : Nat) (b : List UInt8) : Except Sw.Fault ((List UInt8 ⊕ HD) × Nat) := match b with
  | [] => .error ⟨1, p⟩
  | c :: _ => if c = closeOf d.named then .ok (.inl (hEnc (d.more u)), 1) else match Sw.just p [44, 32] b with
    | .error e => .error e
    | .ok _ => (memAt (d.more u) (p + 2) (b.drop 2)).map fun z => (.inr z.1, z.2 + 2)
def spXE (K : PySem.W.Frag) (CF CR CH : Addr) : Sp := fun vs H Q E => ∃ (r a g x h R L : Addr) (p : Nat) (bs u : List UInt8) (hs : List Addr) (d : HD), vs = [.ref r, .ref g, .ref x] ∧ RdAt CR H r a p ∧ SqL K H a (bs.map bv) ∧ p ≤ bs.length ∧ bs.length ≤ 65536 ∧ ((∀ H', SqL K H' a (bs.map bv)) ∨ a ≠ R) ∧ ((∀ H', SqL K H' a (bs.map bv)) ∨ a ≠ g) ∧
  H g = some (.lst ((hs ++ [h]).map V.ref)) ∧ HoAt CH H h R L d ∧ R ≠ L ∧ g ≠ R ∧ g ≠ L ∧ H x = some (.lst (u.map bv)) ∧ d.size ≤ 100000 ∧ d.row.length + u.length ≤ 500000 ∧
  Out E CF (endAt d u p (bs.drop p)) fun (y : (List UInt8 ⊕ HD) × Nat) => match y.1 with
    | .inl v => ∀ (t : Addr) (H' : Hp), RdAt CR H' r a (p + y.2) → H t = none → H' t = some (.lst (v.map bv)) → H' g = some (.lst (hs.map V.ref)) → KpS H H' [r, g, h, R] → p + y.2 ≤ bs.length → Q (.ref t) H'
    | .inr d' => ∀ (L' : Addr) (H' : Hp), RdAt CR H' r a (p + y.2) → HoAt CH H' h R L' d' → R ≠ L' → (L' = L ∨ H L' = none) → H' g = some (.lst ((hs ++ [h]).map V.ref)) → KpS H H' [r, h, R] → p + y.2 ≤ bs.length → d'.row.length ≤ d.row.length + u.length + 7 * y.2 → Q .non H'
section
variable {P : Program} {w : World} {K : PySem.W.Frag} {mg : Str → Option Value} {base : Heap} {CF CR CH fFI : Addr}
theorem scXE : FnScope ["reader", "begun", "value", "holder"] ["reader", "begun", "value"] (defScope sXE) := ⟨rfl, rfl, rfl, by decide +kernel, rfl, by decide +kernel, by decide +kernel⟩
theorem ok_XE {f fSB fRG fXC fXH fBM : Addr} {fd fdS fdG fdC fdE fdM : FuncData} (F : Fun K "end_member" "end_member" sXE f fd) (T : TxR K mg CF CR fFI) (TH : TxH K mg CH)
    (kc : GI mg "COMMA" 44) (kb : GI mg "BLANK" 32)
    (GS : FnOk P w K mg base (CXF P w) 3 fSB fdS ["self"] (spSB K CF CR)) (bS : Binds K fdS ["self"] []) (mS : Meth K CR "see_byte" fSB)
    (GG : FnOk P w K mg base (CXF P w) 4 fRG fdG ["self", "sign"] (spRG K CF CR)) (bG : Binds K fdG ["self", "sign"] []) (mG : Meth K CR "read_sign" fRG)
    (GC : FnOk P w K mg base CX0 1 fXC fdC ["holder"] (spXC CH)) (bC : Binds K fdC ["holder"] []) (kC : PySem.W.keepIn K (.ref fXC) = true) (mC : mg "closing_sign" = some (.ref fXC))
    (GE : FnOk P w K mg base (CXF P w) 5 fXH fdE ["reader", "holder"] (spXH K CF CR CH)) (bE : Binds K fdE ["reader", "holder"] []) (kE : PySem.W.keepIn K (.ref fXH) = true) (mE : mg "end_holder" = some (.ref fXH))
    (GM : FnOk P w K mg base (CXF P w) 10 fBM fdM ["reader", "holder"] (spBM K CF CR CH)) (bM : Binds K fdM ["reader", "holder"] []) (kM : PySem.W.keepIn K (.ref fBM) = true) (mM : mg "begin_member" = some (.ref fBM)) :
    FnOk P w K mg base (CXF P w) 11 f fd ["reader", "begun", "value"] (spXE K CF CR CH) := by
  refine okX F scXE (fun vs H Q E h => ?_) (fun cdv A outer s H vs Q E hr h => ?_)
  · obtain ⟨r, a, g, x, h, R, L, p, bs, u, hs, d, rfl, _⟩ := h
    rfl
  · obtain ⟨r, a, g, x, h, R, L, p, bs, u, hs, d, rfl, rd, hsq, hp, hz, haR, haG, hg, ho, nRL, ngR, ngL, hx, hsz, hln, q⟩ := h
    have hr1' : Room 1 _ := hr.mono (by decide)
    have hr3 : Room 3 _ := hr.mono (by decide)
    have hr4 : Room 4 _ := hr.mono (by decide)
    have hr5 : Room 5 _ := hr.mono (by decide)
    refine ⟨_, pss_cons (ps_set (i := 3) scXE.nd rfl (Or.inl rfl) (pe_ix ix_list (pv 1) (pe_un un_neg pe_int) (fun _ _ => rfl)))
      (pss_cons (ps_fldaug (pv 3) pe_int in_add)
      (pss_cons (ps_expr (pe_bm PySem.F.plainAttrs_list PySem.F.slot_list_extend PySem.F.type_list_extend mt_extend (pe_fld (pv 3) rfl) (pa_cons (pv 2) pa_nil)))
      (pss_cons (ps_if (pt_cmpR op_eq (pe_meth0 (pv 0) T.cR mS GS hr3 bS .nil passX) (pe_call GC hr1' rfl mC kC bC .nil pass0 (pa_cons (pv 3) pa_nil)) (nomark _))
        (pss_cons (ps_expr (pe_bm0 PySem.F.plainAttrs_list PySem.F.slot_list_pop PySem.F.type_list_pop mt_pop (pv 1)))
        (pss_one (ps_ret (pe_call GE hr5 rfl mE kE bE .nil passX (pa_cons (pv 0) (pa_cons (pv 3) pa_nil)))))) pss_nil)
      (pss_cons (ps_expr (pe_meth (pv 0) T.cR mG GG hr4 bG .nil passX (pa_cons (pgi kc rfl) pa_nil)))
      (pss_cons (ps_expr (pe_meth (pv 0) T.cR mG GG hr4 bG .nil passX (pa_cons (pgi kb rfl) pa_nil)))
      (pss_cons (ps_expr (pe_call GM hr rfl mM kM bM .nil passX (pa_cons (pv 0) (pa_cons (pv 3) pa_nil))))
      (pss_one (ps_ret pe_non)))))))), ?_⟩
    obtain ⟨dr, hr1⟩ := id rd
    obtain ⟨⟨dh, o1⟩, o2, o3⟩ := id ho
    have nhr : h ≠ r := ho_ne_rd o1 rd
    have nRr : R ≠ r := ne_of o2 hr1 (by intro z; cases z)
    have nRh : R ≠ h := ne_of o2 o1 (by intro z; cases z)
    have nLr : L ≠ r := ne_of o3 hr1 (by intro z; cases z)
    have nLh : L ≠ h := ne_of o3 o1 (by intro z; cases z)
    have ngr : g ≠ r := ne_of hg hr1 (by intro z; cases z)
    have ngh : g ≠ h := ne_of hg o1 (by intro z; cases z)
    have nxh : x ≠ h := ne_of hx o1 (by intro z; cases z)
    refine ⟨_, rfl, _, rfl, g, _, _, V.ref h, rfl, rfl, SqL.of hg, by rw [List.map_append]; exact atI_last _ _, ?_⟩
    refine ⟨_, rfl, h, CH, dh, _, _, rfl, o1, TH.cH, TH.nSi, rfl, _, _, rfl, rfl, dh, _, o1, (by show 4 < 1000; decide), ?_⟩
    generalize hH1 : upd H h (.ins CH dh (putF "size" (.int ((d.size : Int) + 1)) (hf d R L))) = H1
    have a1 : H1 h = some (.ins CH dh (hf { d with size := d.size + 1 } R L)) := by rw [← hH1, upd_same]; rfl
    have ka : ∀ b o, H b = some o → b ≠ h → H1 b = some o := fun b o e n => by rw [← hH1, upd_ne n]; exact e
    have a2 := ka _ _ o2 nRh
    have a3 := ka _ _ hx nxh
    refine ⟨_, rfl, h, CH, dh, _, _, rfl, a1, TH.cH, TH.nRo, rfl, .inl ⟨rfl, _, SqL.of a2⟩, _, rfl, R, x, _, _, rfl, rfl, a2, a3, by rw [List.length_map, List.length_map, sizeLine_eq]; omega, ?_⟩
    generalize hH2 : upd H1 R (.lst (d.row.map bv ++ u.map bv)) = H2
    have kb : KpS H H2 [r, h, R] := fun b o e hb => by
      rw [List.mem_cons, List.mem_cons, List.mem_singleton, not_or, not_or] at hb
      rw [← hH2, upd_ne hb.2.2]
      exact ka b o e hb.2.1
    have b1 : H2 h = some (.ins CH dh (hf (d.more u) R L)) := by rw [← hH2, upd_ne (Ne.symm nRh)]; exact a1
    have b2 : H2 R = some (.lst ((d.row ++ u).map bv)) := by rw [← hH2, upd_same, List.map_append]
    have b3 : H2 L = some (.lst (d.last.map bv)) := kb _ _ o3 (by simp [nLr, nLh, Ne.symm nRL])
    have b4 : H2 r = some (.ins CR dr (rf a p)) := by rw [← hH2, upd_ne (Ne.symm nRr)]; exact ka _ _ hr1 (Ne.symm nhr)
    have b5 : H2 g = some (.lst ((hs ++ [h]).map V.ref)) := kb _ _ hg (by simp [ngr, ngh, ngR])
    have ho2 : HoAt CH H2 h R L (d.more u) := ⟨⟨dh, b1⟩, b2, b3⟩
    have hs2 := sq_keep hsq haR kb hr1 o1
    have live : ∀ s ∈ [r, h, R], ∃ o, H2 s = some o := fun s hs => by
      rcases List.mem_cons.mp hs with rfl | hs
      · exact ⟨_, b4⟩
      · rcases List.mem_cons.mp hs with rfl | hs
        · exact ⟨_, b1⟩
        · rw [List.mem_singleton.mp hs]
          exact ⟨_, b2⟩
    refine ⟨_, rfl, r, dr, _, rfl, b4, rf_no a p (by decide +kernel) (by decide +kernel), r, a, p, bs, rfl, ⟨dr, b4⟩, hs2, ?_⟩
    cases eb : bs[p]? with
    | none =>
      obtain ⟨e1, e2⟩ := drop_end eb hp
      rw [e1] at q
      have q : Err E CF (.int 1) (.int (p : Int)) := q
      rw [e2] at q
      exact q
    | some c =>
      have hlt := (List.getElem?_eq_some_iff.mp eb).1
      have ed := drop_at eb
      have eo : endAt d u p (bs.drop p) = if c = closeOf d.named then .ok (.inl (hEnc (d.more u)), 1) else match Sw.just p [44, 32] (bs.drop p) with
          | .error e => .error e
          | .ok _ => (memAt (d.more u) (p + 2) ((bs.drop p).drop 2)).map fun z => (.inr z.1, z.2 + 2) := by
        rw [ed]
        rfl
      rw [eo] at q
      have e0 : ∀ (n : Nat) (l : List UInt8), Sw.just n [] l = .ok () := fun n l => by unfold Sw.just; rfl
      refine ⟨_, rfl, h, R, L, d.more u, dh, rfl, b1, rfl, _, rfl, ?_⟩
      show (if decide (bv c = bv (closeOf d.named)) = true then _ else _)
      rw [bv_inj]
      by_cases hc : c = closeOf d.named
      · rw [decide_eq_true hc]
        rw [if_pos hc] at q
        refine iteT ⟨_, rfl, .inl ⟨rfl, _, SqL.of b5⟩, g, _, V.ref h, rfl, rfl, b5, ?_, ?_⟩
        · rw [List.length_map, List.length_append, List.map_append]
          show (hs.map V.ref ++ [V.ref h])[hs.length + 1 - 1]? = _
          rw [Nat.add_sub_cancel, List.getElem?_append_right (by rw [List.length_map]; exact Nat.le_refl _), List.length_map, Nat.sub_self]
          rfl
        generalize hH3 : upd H2 g (.lst ((hs ++ [h]).map V.ref).dropLast) = H3
        have k3 : ∀ b o, H2 b = some o → b ≠ g → H3 b = some o := fun b o e n => by rw [← hH3, upd_ne n]; exact e
        have hg3 : H3 g = some (.lst (hs.map V.ref)) := by
          rw [← hH3, upd_same, List.map_append]
          show some (HO.lst (hs.map V.ref ++ [V.ref h]).dropLast) = _
          exact congrArg (fun t => some (HO.lst t)) List.dropLast_concat
        have ho3 : HoAt CH H3 h R L (d.more u) := ⟨⟨dh, k3 _ _ b1 (Ne.symm ngh)⟩, k3 _ _ b2 (Ne.symm ngR), k3 _ _ b3 (Ne.symm ngL)⟩
        have hr3' := k3 _ _ b4 (Ne.symm ngr)
        have hs3 : SqL K H3 a (bs.map bv) := sq_keep (r := r) (h := h) (R := g) hs2 haG (fun b o e hb => k3 _ _ e (fun z => hb (by simp [z]))) b4 b1
        refine ⟨_, rfl, _, rfl, r, a, h, R, L, p, bs, d.more u, rfl, ⟨dr, hr3'⟩, hs3, hp, ho3, (by show d.size + 1 < 34359738368; omega), (by show (d.row ++ u).length ≤ 1000000; rw [List.length_append]; omega), ?_⟩
        rw [ed, hc]
        show Out E CF (Sw.just p [closeOf d.named] (closeOf d.named :: bs.drop (p + 1))) _
        rw [just_cons, e0]
        intro t H4 rd4 k4 ht ht4 l4
        have q : ∀ (t : Addr) (H' : Hp), RdAt CR H' r a (p + 1) → H t = none → H' t = some (.lst ((hEnc (d.more u)).map bv)) → H' g = some (.lst (hs.map V.ref)) → KpS H H' [r, g, h, R] → p + 1 ≤ bs.length → Q (.ref t) H' := q
        refine q t H4 rd4 ?_ ht4 (k4 _ _ hg3 ngr) ?_ l4
        · refine kb.free live ?_
          cases e2 : H2 t with
          | none => rfl
          | some o =>
            by_cases z : t = g
            · rw [z, hg3] at ht; cases ht
            · rw [k3 _ _ e2 z] at ht; cases ht
        · intro b o e hb
          rw [List.mem_cons, List.mem_cons, List.mem_cons, List.mem_singleton, not_or, not_or, not_or] at hb
          refine k4 _ _ (k3 _ _ (kb _ _ e ?_) hb.2.1) hb.1
          rw [List.mem_cons, List.mem_cons, List.mem_singleton, not_or, not_or]
          exact ⟨hb.1, hb.2.2.1, hb.2.2.2⟩
      · rw [decide_eq_false hc]
        rw [if_neg hc, just2, List.drop_drop, List.drop_drop] at q
        refine iteF ⟨_, rfl, r, dr, _, rfl, b4, rf_no a p (by decide +kernel) (by decide +kernel), r, a, p, bs, 44, rfl, ⟨dr, b4⟩, hs2, hp, ?_⟩
        cases e1 : Sw.just p [44] (bs.drop p) with
        | error e => rw [e1] at q; exact q
        | ok v =>
          rw [e1] at q
          dsimp only at q
          intro H3 rd3 k3
          have l3 := just_le hp e1
          have hs3 := sq_kp hs2 k3 b4
          obtain ⟨d3, hr3'⟩ := id rd3
          refine ⟨_, rfl, r, d3, _, rfl, hr3', rf_no a _ (by decide +kernel) (by decide +kernel), r, a, p + 1, bs, 32, rfl, rd3, hs3, l3, ?_⟩
          cases e2 : Sw.just (p + 1) [32] (bs.drop (p + 1)) with
          | error e => rw [e2] at q; exact q
          | ok v =>
            rw [e2] at q
            dsimp only at q
            intro H4 rd4 k4
            have l4 := just_le l3 e2
            have k24 := k3.trans k4
            have hs4 := sq_kp hs2 k24 b4
            have ho4 := ho2.kp ⟨dr, b4⟩ k24
            refine ⟨_, rfl, _, rfl, r, a, h, R, L, p + 2, bs, d.more u, rfl, rd4, hs4, l4, hz, ho4, nRL, haR, (by show (d.row ++ u).length ≤ 600000; rw [List.length_append]; omega), ?_⟩
            cases em : memAt (d.more u) (p + 2) (bs.drop (p + 2)) with
            | error e => rw [em] at q; exact q
            | ok y =>
              obtain ⟨d', n⟩ := y
              rw [em] at q
              intro L' H5 rd5 ho5 nRL' k5 hL' l5 hl5
              have q : ∀ (L' : Addr) (H' : Hp), RdAt CR H' r a (p + (n + 2)) → HoAt CH H' h R L' d' → R ≠ L' → (L' = L ∨ H L' = none) → H' g = some (.lst ((hs ++ [h]).map V.ref)) → KpS H H' [r, h, R] → p + (n + 2) ≤ bs.length → d'.row.length ≤ d.row.length + u.length + 7 * (n + 2) → Q .non H' := q
              rw [show p + (n + 2) = p + 2 + n by omega] at q
              have hl5 : d'.row.length ≤ (d.row ++ u).length + 7 * n := hl5
              rw [List.length_append] at hl5
              have kk : KpS H H5 [r, h, R] := fun b o e hb => by
                have hb' := hb
                rw [List.mem_cons, List.mem_cons, List.mem_singleton, not_or, not_or] at hb'
                exact k5 _ _ (k24 _ _ (kb _ _ e hb) hb'.1) hb
              refine q L' H5 rd5 ho5 nRL' ?_ (kk _ _ hg (by simp [ngr, ngh, ngR])) kk l5 (by omega)
              rcases hL' with z | hL'
              · exact .inl z
              · refine .inr (kb.free live ?_)
                obtain ⟨d4, hr4'⟩ := id rd4
                exact k24.free ⟨_, hr4'⟩ hL'
end
end L2.J

set_option Elab.async false
set_option linter.all false
set_option maxRecDepth 100000
set_option maxHeartbeats 2000000
namespace L2.J
open Sw
/-! ### a text read value by value -/
abbrev Res := Except Sw.Fault (List UInt8 × Nat)
inductive MS where
  | vb : List HD → Nat → MS
  | en : List HD → List UInt8 → Nat → MS
inductive Rn (bs : List UInt8) : Nat → MS → Res → Prop where
  | done {w p} : Rn bs 0 (.en [] w p) (.ok (w, p))
  | vErr {stk p e} : beginAt (List.length stk) p (bs.drop p) = .error e → Rn bs 0 (.vb stk p) (.error e)
  | vIn {stk p w n m res} : beginAt (List.length stk) p (bs.drop p) = .ok (.inl w, n) → Rn bs m (.en stk w (p + n)) res → Rn bs (m + 1) (.vb stk p) res
  | vOp {stk p d n m res} : beginAt (List.length stk) p (bs.drop p) = .ok (.inr d, n) → Rn bs m (.vb (d :: stk) (p + n)) res → Rn bs (m + 1) (.vb stk p) res
  | eErr {d stk w p e} : endAt d w p (bs.drop p) = .error e → Rn bs 0 (.en (d :: stk) w p) (.error e)
  | eIn {d stk w p v n m res} : endAt d w p (bs.drop p) = .ok (.inl v, n) → Rn bs m (.en stk v (p + n)) res → Rn bs (m + 1) (.en (d :: stk) w p) res
  | eOp {d stk w p d' n m res} : endAt d w p (bs.drop p) = .ok (.inr d', n) → Rn bs m (.vb (d' :: stk) (p + n)) res → Rn bs (m + 1) (.en (d :: stk) w p) res
def To (bs : List UInt8) (st : MS) (res : Res) : Prop := ∃ m, Rn bs m st res
def ToM (bs : List UInt8) (d : HD) (stk : List HD) (p : Nat) (res : Res) : Prop := (∃ e, memAt d p (bs.drop p) = .error e ∧ res = .error e) ∨ ∃ d' n, memAt d p (bs.drop p) = .ok (d', n) ∧ To bs (.vb (d' :: stk) (p + n)) res
def prevOf (l : List UInt8) : Option (List UInt8) := if l = [] then none else some l
def rawS (f p : Nat) (b : Bytes) : Except Fault (Bytes × Nat) := match b with
    | [] => .error ⟨1, p⟩
    | c :: r => if c = 34 then (match quotedAt f (p + 1) r with
        | .error e => .error e
        | .ok (t, k) => if bare (utf8 t) = true then .error ⟨2, p⟩ else .ok (utf8 t, k + 1))
      else if isSmall c = true then (if (b.takeWhile inName).length = b.length then .error ⟨1, p + b.length⟩ else .ok (b.takeWhile inName, (b.takeWhile inName).length))
      else .error ⟨2, p⟩
def behB (prev : Option Bytes) (n : Bytes) : Bool := match prev with
  | some q => bytesBefore q n
  | none => true
theorem nm_eq (f p : Nat) (prev : Option Bytes) (b : Bytes) : nameAt f p prev b = match rawS f p b with
    | .error e => .error e
    | .ok (n, l) => if n.length = 0 ∨ NAME < n.length then .error ⟨6, p⟩ else
      if behB prev n = false then .error ⟨6, p⟩ else .ok (n, l) := by
  unfold nameAt rawS
  cases b with
  | nil => rfl
  | cons c r =>
    dsimp only
    by_cases h : c = 34
    · rw [if_pos h, if_pos h]
      cases quotedAt f (p + 1) r with
      | error e => rfl
      | ok y =>
        obtain ⟨t, k⟩ := y
        show (Except.bind (Except.bind (.ok (t, k)) fun (x : List Nat × Nat) => (if bare (utf8 x.1) = true then .error ⟨2, p⟩ else .ok (utf8 x.1, x.2 + 1) : Except Fault (Bytes × Nat))) _ : Except Fault (Bytes × Nat)) = _
        dsimp only [Except.bind]
        by_cases h2 : bare (utf8 t) = true
        · rw [if_pos h2]
        · rw [if_neg h2]; rfl
    · rw [if_neg h, if_neg h]
      by_cases h2 : isSmall c = true
      · rw [if_pos h2]
        by_cases h3 : ((c :: r).takeWhile inName).length = (c :: r).length
        · rw [if_pos h3]; rfl
        · rw [if_neg h3]; rfl
      · rw [if_neg h2]; rfl
theorem before_nil (n : Bytes) : bytesBefore [] n = !n.isEmpty := by
  cases n <;> rfl
theorem before_none : ∀ q : Bytes, bytesBefore q [] = false
  | [] => rfl
  | _ :: _ => rfl
theorem named_eq (last : List UInt8) (p : Nat) (b : List UInt8) : namedAt last p b = nameAt (b.length + 1) p (prevOf last) b := by
  rw [nm_eq]
  have er : rawAt p b = rawS (b.length + 1) p b := by
    cases b with
    | nil => rfl
    | cons c r =>
      unfold rawAt rawS
      dsimp only
      by_cases h : c = 34
      · rw [if_pos h, if_pos h]
        subst h
        unfold quoteAt
        have e0 : Sw.just p [34] (34 :: r) = .ok () := by
          rw [just_cons]
          unfold Sw.just
          rfl
        rw [e0]
        show (match (Sw.quotedAt ((34 :: r).length + 1) (p + 1) r).map fun (z : List Nat × Nat) => (Sw.utf8 z.1, z.2 + 1) with
          | .error e => .error e
          | .ok (m, n) => if Sw.bare m = true then .error ⟨2, p⟩ else .ok (m, n) : Except Fault (Bytes × Nat)) = _
        cases Sw.quotedAt ((34 :: r).length + 1) (p + 1) r with
        | error e => rfl
        | ok y => rfl
      · rw [if_neg h, if_neg h]
        rfl
  unfold namedAt
  rw [← er]
  cases rawAt p b with
  | error e => rfl
  | ok y =>
    obtain ⟨n, l⟩ := y
    dsimp only
    unfold prevOf
    by_cases hl : last = []
    · rw [if_pos hl]
      subst hl
      rw [before_nil]
      show _ = (if n.length = 0 ∨ NAME < n.length then .error ⟨6, p⟩ else if true = false then .error ⟨6, p⟩ else .ok (n, l) : Except Fault (Bytes × Nat))
      cases n with
      | nil => simp [NAME]
      | cons c r =>
        by_cases h : 255 < (c :: r).length
        · rw [if_pos (.inl h), if_pos (.inr h)]
        · rw [if_neg (fun z => z.elim h (fun y => by cases y)), if_neg (fun z => z.elim (fun y => by cases y) h), if_neg (show ¬ (true = false) by decide)]

    · rw [if_neg hl]
      show _ = (if n.length = 0 ∨ NAME < n.length then .error ⟨6, p⟩ else if bytesBefore last n = false then .error ⟨6, p⟩ else .ok (n, l) : Except Fault (Bytes × Nat))
      cases n with
      | nil => rw [before_none, if_pos (.inr rfl), if_pos (.inl rfl)]
      | cons c r =>
        by_cases h : 255 < (c :: r).length
        · rw [if_pos (.inl h), if_pos (.inr h)]
        · rw [if_neg (show ¬ ((c :: r).length = 0 ∨ NAME < (c :: r).length) from fun z => z.elim (fun y => by cases y) h)]
          by_cases h2 : bytesBefore last (c :: r) = false
          · rw [if_pos (.inr h2), if_pos h2]
          · rw [if_neg (fun z => z.elim h h2), if_neg h2]
theorem name_ne {f p : Nat} {prev : Option Bytes} {b n : Bytes} {l : Nat} (h : nameAt f p prev b = .ok (n, l)) : n ≠ [] := by
  rw [nm_eq] at h
  cases e : rawS f p b with
  | error y => rw [e] at h; cases h
  | ok y =>
    obtain ⟨m, k⟩ := y
    rw [e] at h
    dsimp only at h
    by_cases h1 : m.length = 0 ∨ NAME < m.length
    · rw [if_pos h1] at h; cases h
    · rw [if_neg h1] at h
      by_cases h2 : behB prev m = false
      · rw [if_pos h2] at h; cases h
      · rw [if_neg h2] at h
        cases h
        exact fun z => h1 (.inl (by rw [z]; rfl))
/-! atoms -/
theorem begin_iff : ∀ n, n < 256 → (isDigit (UInt8.ofNat n) || [110, 121, 45, 120, 34, 91, 123, 64, 35].contains (UInt8.ofNat n).toNat) = (atomB (UInt8.ofNat n) || (decide (UInt8.ofNat n = 91) || decide (UInt8.ofNat n = 123))) := by decide +kernel
theorem begin_eq (c : UInt8) : (isDigit c || [110, 121, 45, 120, 34, 91, 123, 64, 35].contains c.toNat) = (atomB c || (decide (c = 91) || decide (c = 123))) := by
  have h := begin_iff c.toNat c.toNat_lt
  rw [UInt8.ofNat_toNat] at h
  exact h
theorem atom_no {c : UInt8} (h : atomB c = true) : c ≠ 91 ∧ c ≠ 123 := by
  constructor
  · rintro rfl
    cases h
  · rintro rfl
    cases h
theorem atom_shown {f deep p : Nat} {c : UInt8} {r : Bytes} (ha : atomB c = true) (hd : ¬ DEEP < deep) : match shownAt (f + 1) deep p (c :: r) with
    | .error e => atomAt p (c :: r) = .error e
    | .ok (v, n) => atomAt p (c :: r) = .ok (v.enc, n) := by
  obtain ⟨n91, n123⟩ := atom_no ha
  unfold shownAt atomAt
  dsimp only
  rw [begin_eq, ha, Bool.true_or, if_neg (by decide), if_neg hd]
  by_cases h1 : c = 110
  · rw [if_pos h1, if_pos h1]
    subst h1
    rw [just_cons]
    have ea : ascii "o" = [111] := by decide +kernel
    rw [ea]
    cases Sw.just (p + 1) [111] r with
    | error e => rfl
    | ok u => rfl
  rw [if_neg h1, if_neg h1]
  by_cases h2 : c = 121
  · rw [if_pos h2, if_pos h2]
    subst h2
    rw [just_cons]
    have ea : ascii "es" = [101, 115] := by decide +kernel
    rw [ea]
    cases Sw.just (p + 1) [101, 115] r with
    | error e => rfl
    | ok u => rfl
  rw [if_neg h2, if_neg h2]
  by_cases h3 : c = 120
  · rw [if_pos h3, if_pos h3]
    subst h3
    unfold pairedAt
    rw [just_cons]
    cases Sw.just (p + 1) [34] r with
    | error e => rfl
    | ok u =>
      show (match (do
        let (m, n) ← pairsAt ((120 :: r).length + 1) (p + 2) (r.drop 1)
        .ok (.bytes m, n + 2) : Except Fault (Value × Nat)) with
        | .error e => _
        | .ok (v, n) => _)
      have ed : (120 :: r).drop 2 = r.drop 1 := rfl
      rw [ed]
      cases pairsAt ((120 :: r).length + 1) (p + 2) (r.drop 1) with
      | error e => rfl
      | ok y => rfl
  rw [if_neg h3, if_neg h3]
  by_cases h4 : c = 34
  · rw [if_pos h4, if_pos h4]
    subst h4
    unfold quoteAt
    have e0 : Sw.just p [34] (34 :: r) = .ok () := by
      rw [just_cons]
      unfold Sw.just
      rfl
    rw [e0]
    have ed : (34 :: r).drop 1 = r := rfl
    rw [ed]
    cases quotedAt ((34 :: r).length + 1) (p + 1) r with
    | error e => rfl
    | ok y => rfl
  rw [if_neg h4, if_neg h4]
  by_cases h5 : c = 64
  · rw [if_pos h5, if_pos h5]
    subst h5
    unfold momAt
    have e0 : Sw.just p [64] (64 :: r) = .ok () := by
      rw [just_cons]
      unfold Sw.just
      rfl
    rw [e0]
    have ed : (64 :: r).drop 1 = r := rfl
    rw [ed]
    cases figuresAt (p + 1) r with
    | error e => rfl
    | ok y =>
      obtain ⟨z, n⟩ := y
      show (match (if z < -((2 ^ 63 : Nat) : Int) ∨ ((2 ^ 63 : Nat) : Int) ≤ z then .error ⟨4, p⟩ else .ok (.moment z, n + 1) : Except Fault (Value × Nat)) with
        | .error e => _
        | .ok (v, n) => _)
      dsimp only
      by_cases h : z < -((2 ^ 63 : Nat) : Int) ∨ ((2 ^ 63 : Nat) : Int) ≤ z
      · rw [if_pos h, if_pos h]
      · rw [if_neg h, if_neg h]
        rfl
  rw [if_neg h5, if_neg h5]
  by_cases h6 : c = 35
  · rw [if_pos h6, if_pos h6]
    subst h6
    unfold idAt
    have e0 : Sw.just p [35] (35 :: r) = .ok () := by
      rw [just_cons]
      unfold Sw.just
      rfl
    rw [e0]
    have ed : (35 :: r).drop 1 = r := rfl
    rw [ed]
    cases figures64 32 (p + 1) r with
    | error e => rfl
    | ok y => rfl
  rw [if_neg h6, if_neg h6, if_neg n91, if_neg n123]
  unfold numAt
  cases figuresAt p (c :: r) with
  | error e => rfl
  | ok y =>
    obtain ⟨z, n⟩ := y
    show (match (if 256 ^ NUMBER ≤ z.natAbs then .error ⟨4, p⟩ else .ok (.num z, n) : Except Fault (Value × Nat)) with
      | .error e => _
      | .ok (v, n) => _)
    dsimp only
    by_cases h : 256 ^ NUMBER ≤ z.natAbs
    · rw [if_pos h, if_pos h]
    · rw [if_neg h, if_neg h]
      rfl
end L2.J

set_option Elab.async false
set_option linter.all false
set_option maxRecDepth 100000
set_option maxHeartbeats 2000000
namespace L2.J
open Sw
def hdrS (named : Bool) (prev : Option Bytes) (p : Nat) (b : Bytes) : Except Fault (Bytes × Nat) := if named = true then (match nameAt (b.length + 1) p prev b with
  | .error e => .error e
  | .ok (n, l) => match just (p + l) [58, 32] (b.drop l) with
    | .error e => .error e
    | .ok _ => .ok (n, l + 2)) else .ok ([], 0)
def tailS (f deep : Nat) (named : Bool) (p l used : Nat) (name : Bytes) (v : Value) (rest : Bytes) : Except Fault (Row × Nat) := match rest with
  | [] => .error ⟨1, p + l + used⟩
  | c :: s => if c = (if named = true then 125 else 93) then .ok (.cons name v .nil, l + used + 1) else if c ≠ 44 then .error ⟨2, p + l + used⟩ else match just (p + l + used + 1) [32] s with
    | .error e => .error e
    | .ok _ => match membersAt f deep named (some name) (p + l + used + 2) (s.drop 1) with
      | .error e => .error e
      | .ok (r, n) => .ok (.cons name v r, l + used + 2 + n)
theorem mem_eq (f deep : Nat) (named : Bool) (prev : Option Bytes) (p : Nat) (b : Bytes) : membersAt (f + 1) deep named prev p b = match hdrS named prev p b with
    | .error e => .error e
    | .ok (name, l) => match shownAt f (deep + 1) (p + l) (b.drop l) with
      | .error e => .error e
      | .ok (v, used) => tailS f deep named p l used name v (b.drop (l + used)) := by
  have tail : ∀ (name : Bytes) (l : Nat), (do
      let (v, used) ← shownAt f (deep + 1) (p + l) (b.drop l)
      let rest := b.drop (l + used)
      match rest with
      | [] => .error ⟨1, p + l + used⟩
      | c :: s => if c = (if named = true then 125 else 93) then .ok (.cons name v .nil, l + used + 1) else if c ≠ 44 then .error ⟨2, p + l + used⟩ else do
        just (p + l + used + 1) [32] s
        let (r, n) ← membersAt f deep named (some name) (p + l + used + 2) (s.drop 1)
        .ok (.cons name v r, l + used + 2 + n) : Except Fault (Row × Nat)) = match shownAt f (deep + 1) (p + l) (b.drop l) with
      | .error e => .error e
      | .ok (v, used) => tailS f deep named p l used name v (b.drop (l + used)) := fun name l => by
    cases shownAt f (deep + 1) (p + l) (b.drop l) with
    | error e => rfl
    | ok y =>
      obtain ⟨v, used⟩ := y
      simp only [bind, Except.bind]
      unfold tailS
      cases b.drop (l + used) with
      | nil => rfl
      | cons c s =>
        dsimp only
        by_cases h1 : c = (if named = true then 125 else 93)
        · rw [if_pos h1, if_pos h1]
        · rw [if_neg h1, if_neg h1]
          by_cases h2 : c ≠ 44
          · rw [if_pos h2, if_pos h2]
          · rw [if_neg h2, if_neg h2]
            cases just (p + l + used + 1) [32] s with
            | error e => rfl
            | ok u =>
              dsimp only
              cases membersAt f deep named (some name) (p + l + used + 2) (s.drop 1) with
              | error e => rfl
              | ok y => rfl
  conv => lhs; unfold membersAt
  unfold hdrS
  cases named with
  | false => exact tail [] 0
  | true =>
    rw [if_pos rfl, if_pos rfl]
    cases nameAt (b.length + 1) p prev b with
    | error e => rfl
    | ok y =>
      obtain ⟨n, l⟩ := y
      dsimp only
      simp only [bind, Except.bind]
      cases just (p + l) [58, 32] (b.drop l) with
      | error e => rfl
      | ok u => exact tail n (l + 2)
def HD.under (d : HD) (name : Bytes) : HD := if d.named = true then { d with row := d.row ++ (vary name.length ++ name), last := name } else d
theorem memAt_hdr (d : HD) (p : Nat) (b : Bytes) : memAt d p b = match hdrS d.named (prevOf d.last) p b with
    | .error e => .error e
    | .ok (n, l) => .ok (d.under n, l) := by
  unfold memAt hdrS HD.under
  cases hn : d.named with
  | false => rfl
  | true =>
    rw [if_pos rfl, if_pos rfl, named_eq]
    cases nameAt (b.length + 1) p (prevOf d.last) b with
    | error e => rfl
    | ok y =>
      obtain ⟨n, l⟩ := y
      dsimp only
      cases just (p + l) [58, 32] (b.drop l) with
      | error e => rfl
      | ok u =>
        dsimp only
        rw [if_pos rfl]
theorem mem_nil (f deep : Nat) (named : Bool) (prev : Option Bytes) (p : Nat) : membersAt f deep named prev p [] = .error ⟨1, p⟩ := by
  cases f with
  | zero => unfold membersAt; rfl
  | succ f =>
    rw [mem_eq]
    unfold hdrS
    cases named with
    | true =>
      rw [if_pos rfl, nm_eq]
      rfl
    | false =>
      rw [if_neg (by decide)]
      dsimp only
      have e : shownAt f (deep + 1) (p + 0) (([] : Bytes).drop 0) = .error ⟨1, p⟩ := by
        cases f with
        | zero => unfold shownAt; rfl
        | succ f => unfold shownAt; rfl
      rw [e]
theorem under_named (d : HD) (n : Bytes) : (d.under n).named = d.named := by
  unfold HD.under
  split <;> rfl
theorem under_size (d : HD) (n : Bytes) : (d.under n).size = d.size := by
  unfold HD.under
  split <;> rfl
theorem under_row (d : HD) (n : Bytes) : (d.under n).row = d.row ++ (if d.named = true then vary n.length ++ n else []) := by
  unfold HD.under
  split
  · rfl
  · rw [List.append_nil]
def PA (bs : List UInt8) (f : Nat) (stk : List HD) (p : Nat) : Prop := match shownAt f (stk.length + 1) p (bs.drop p) with
  | .error e => To bs (.vb stk p) (.error e)
  | .ok (v, n) => ∀ res, To bs (.en stk v.enc (p + n)) res → To bs (.vb stk p) res
def PB (bs : List UInt8) (f : Nat) (d : HD) (stk : List HD) (p : Nat) (prev : Option Bytes) : Prop := match membersAt f (stk.length + 1) d.named prev p (bs.drop p) with
  | .error e => ToM bs d stk p (.error e)
  | .ok (m, n) => ∀ res, To bs (.en stk (hEnc ⟨d.named, d.size + m.length, d.row ++ m.enc d.named, []⟩) (p + n)) res → ToM bs d stk p res
theorem open_to {bs : List UInt8} {stk : List HD} {p : Nat} {named : Bool} {res : Res} {dd : UInt8} (hb : beginAt stk.length p (bs.drop p) = openAt named (p + 1) (bs.drop (p + 1))) (hd : bs[p + 1]? = some dd) (hc : dd ≠ closeOf named) (h : ToM bs (hd0 named) stk (p + 1) res) : To bs (.vb stk p) res := by
  have eo : openAt named (p + 1) (bs.drop (p + 1)) = (memAt (hd0 named) (p + 1) (bs.drop (p + 1))).map fun z => (.inr z.1, z.2 + 1) := by
    rw [drop_at hd]
    exact if_neg hc
  rw [eo] at hb
  rcases h with ⟨e, e1, rfl⟩ | ⟨d', n, e1, m, h⟩
  · rw [e1] at hb
    exact ⟨0, .vErr hb⟩
  · rw [e1] at hb
    have hb : beginAt stk.length p (bs.drop p) = .ok (.inr d', n + 1) := hb
    rw [show p + 1 + n = p + (n + 1) by omega] at h
    exact ⟨m + 1, .vOp hb h⟩
theorem runs (bs : List UInt8) : ∀ f, (∀ stk p, 2 * (bs.length - p) + 1 ≤ f → PA bs f stk p) ∧ (∀ d stk p prev, 2 * (bs.length - p) + 2 ≤ f → (d.named = true → prev = prevOf d.last) → PB bs f d stk p prev)
  | 0 => ⟨fun _ _ h => absurd h (by omega), fun _ _ _ _ h => absurd h (by omega)⟩
  | f + 1 => by
    obtain ⟨ihA, ihB⟩ := runs bs f
    constructor
    · intro stk p hf
      unfold PA
      cases eb : bs[p]? with
      | none =>
        have e1 : bs.drop p = [] := List.drop_of_length_le (List.getElem?_eq_none_iff.mp eb)
        rw [e1]
        have e2 : shownAt (f + 1) (stk.length + 1) p [] = .error ⟨1, p⟩ := by unfold shownAt; rfl
        rw [e2]
        exact ⟨0, .vErr (by rw [e1]; rfl)⟩
      | some c =>
        have hlt := (List.getElem?_eq_some_iff.mp eb).1
        have ed := drop_at eb
        have eq : beginAt stk.length p (bs.drop p) = if ¬ (atomB c = true ∨ c = 91 ∨ c = 123) then .error ⟨2, p⟩ else if 64 ≤ stk.length then .error ⟨7, p⟩ else if atomB c = true then (atomAt p (bs.drop p)).map fun z => (.inl z.1, z.2) else openAt (decide (c = 123)) (p + 1) (bs.drop (p + 1)) := by
          rw [ed]
          rfl
        rw [ed]
        by_cases hc : atomB c = true ∨ c = 91 ∨ c = 123
        · rw [if_neg (fun z => z hc)] at eq
          have hb : (isDigit c || [110, 121, 45, 120, 34, 91, 123, 64, 35].contains c.toNat) = true := by
            rw [begin_eq, Bool.or_eq_true, Bool.or_eq_true, decide_eq_true_eq, decide_eq_true_eq]
            exact hc
          by_cases h64 : 64 ≤ stk.length
          · rw [if_pos h64] at eq
            have e2 : shownAt (f + 1) (stk.length + 1) p (c :: bs.drop (p + 1)) = .error ⟨7, p⟩ := by
              unfold shownAt
              dsimp only
              rw [hb, if_neg (by decide), if_pos (by show 64 < _; omega)]
            rw [e2]
            exact ⟨0, .vErr eq⟩
          · rw [if_neg h64] at eq
            by_cases ha : atomB c = true
            · rw [if_pos ha] at eq
              have at_ := atom_shown (f := f) (deep := stk.length + 1) (p := p) (r := bs.drop (p + 1)) ha (by show ¬ 64 < _; omega)
              rw [← ed] at at_ ⊢
              cases es : shownAt (f + 1) (stk.length + 1) p (bs.drop p) with
              | error e =>
                rw [es] at at_
                have at_ : atomAt p (bs.drop p) = .error e := at_
                rw [at_] at eq
                exact ⟨0, .vErr eq⟩
              | ok y =>
                obtain ⟨v, n⟩ := y
                rw [es] at at_
                have at_ : atomAt p (bs.drop p) = .ok (v.enc, n) := at_
                rw [at_] at eq
                rintro res ⟨m, h⟩
                exact ⟨m + 1, .vIn eq h⟩
            · rw [if_neg ha] at eq
              have hc' : c = 91 ∨ c = 123 := hc.resolve_left ha
              have skip : ∀ d : UInt8, d ≠ 91 → d ≠ 123 → ¬ c = d := fun d h1 h2 z => by
                rcases hc' with y | y
                · exact h1 (z.symm.trans y)
                · exact h2 (z.symm.trans y)
              have es : shownAt (f + 1) (stk.length + 1) p (c :: bs.drop (p + 1)) = if (bs.drop (p + 1)).head? = some (closeOf (decide (c = 123))) then .ok (if c = 123 then .rec_ .nil else .list .nil, 2) else match membersAt f (stk.length + 1) (decide (c = 123)) none (p + 1) (bs.drop (p + 1)) with
                  | .error e => .error e
                  | .ok (m, n) => .ok (if c = 123 then .rec_ m else .list m, n + 1) := by
                unfold shownAt
                dsimp only
                rw [hb, if_neg (by decide), if_neg (by show ¬ 64 < _; omega), if_neg (skip 110 (by decide) (by decide)), if_neg (skip 121 (by decide) (by decide)), if_neg (skip 120 (by decide) (by decide)), if_neg (skip 34 (by decide) (by decide)), if_neg (skip 64 (by decide) (by decide)), if_neg (skip 35 (by decide) (by decide))]
                rcases hc' with rfl | rfl
                · rw [if_pos rfl]
                  show _ = if (bs.drop (p + 1)).head? = some 93 then _ else _
                  by_cases h : (bs.drop (p + 1)).head? = some 93
                  · rw [if_pos h, if_pos h]; rfl
                  · rw [if_neg h, if_neg h]
                    show _ = match membersAt f (stk.length + 1) false none (p + 1) (bs.drop (p + 1)) with
                      | .error e => _
                      | .ok (m, n) => _
                    cases membersAt f (stk.length + 1) false none (p + 1) (bs.drop (p + 1)) with
                    | error e => rfl
                    | ok y => rfl
                · rw [if_neg (by decide), if_pos rfl]
                  show _ = if (bs.drop (p + 1)).head? = some 125 then _ else _
                  by_cases h : (bs.drop (p + 1)).head? = some 125
                  · rw [if_pos h, if_pos h]; rfl
                  · rw [if_neg h, if_neg h]
                    show _ = match membersAt f (stk.length + 1) true none (p + 1) (bs.drop (p + 1)) with
                      | .error e => _
                      | .ok (m, n) => _
                    cases membersAt f (stk.length + 1) true none (p + 1) (bs.drop (p + 1)) with
                    | error e => rfl
                    | ok y => rfl
              have enc : ∀ (m : Row), (if c = 123 then Value.rec_ m else Value.list m).enc = hEnc ⟨decide (c = 123), m.length, m.enc (decide (c = 123)), []⟩ := fun m => by
                rcases hc' with rfl | rfl
                · rfl
                · rfl
              rw [es]
              generalize hnm : decide (c = 123) = named at *
              cases eb2 : bs[p + 1]? with
              | none =>
                have e1 : bs.drop (p + 1) = [] := List.drop_of_length_le (List.getElem?_eq_none_iff.mp eb2)
                rw [e1, if_neg (by intro z; cases z), mem_nil]
                exact ⟨0, .vErr (by rw [eq, e1]; rfl)⟩
              | some dd =>
                have ed2 := drop_at eb2
                by_cases hdd : dd = closeOf named
                · rw [if_pos (by rw [ed2, hdd]; rfl)]
                  have eo : openAt named (p + 1) (bs.drop (p + 1)) = .ok (.inl (hEnc (hd0 named)), 2) := by
                    rw [ed2]
                    exact if_pos hdd
                  rw [eo] at eq
                  rintro res ⟨m, h⟩
                  rw [enc] at h
                  exact ⟨m + 1, .vIn eq h⟩
                · rw [if_neg (by rw [ed2]; exact fun z => hdd (Option.some.inj z))]
                  have hB := ihB (hd0 named) stk (p + 1) none (by omega) (fun _ => rfl)
                  unfold PB at hB
                  have hB : match membersAt f (stk.length + 1) named none (p + 1) (bs.drop (p + 1)) with
                    | .error e => ToM bs (hd0 named) stk (p + 1) (.error e)
                    | .ok (m, n) => ∀ res, To bs (.en stk (hEnc ⟨named, 0 + m.length, [] ++ m.enc named, []⟩) (p + 1 + n)) res → ToM bs (hd0 named) stk (p + 1) res := hB
                  cases em : membersAt f (stk.length + 1) named none (p + 1) (bs.drop (p + 1)) with
                  | error e =>
                    rw [em] at hB
                    exact open_to eq eb2 hdd hB
                  | ok y =>
                    obtain ⟨m, n⟩ := y
                    rw [em] at hB
                    dsimp only at hB ⊢
                    intro res h
                    rw [enc] at h
                    rw [Nat.zero_add, List.nil_append, show p + 1 + n = p + (n + 1) by omega] at hB
                    exact open_to eq eb2 hdd (hB res h)
        · rw [if_pos hc] at eq
          have hb : (isDigit c || [110, 121, 45, 120, 34, 91, 123, 64, 35].contains c.toNat) = false := by
            rw [begin_eq]
            cases e : (atomB c || (decide (c = 91) || decide (c = 123))) with
            | false => rfl
            | true =>
              rw [Bool.or_eq_true, Bool.or_eq_true, decide_eq_true_eq, decide_eq_true_eq] at e
              exact absurd e hc
          have e2 : shownAt (f + 1) (stk.length + 1) p (c :: bs.drop (p + 1)) = .error ⟨2, p⟩ := by
            unfold shownAt
            dsimp only
            rw [hb, if_pos rfl]
          rw [e2]
          exact ⟨0, .vErr eq⟩
    · intro d stk p prev hf hprev
      unfold PB
      have hh : hdrS d.named prev p (bs.drop p) = hdrS d.named (prevOf d.last) p (bs.drop p) := by
        cases hn : d.named with
        | true => rw [hprev hn]
        | false => rfl
      have me := memAt_hdr d p (bs.drop p)
      rw [mem_eq, hh]
      cases eh : hdrS d.named (prevOf d.last) p (bs.drop p) with
      | error e =>
        rw [eh] at me
        exact .inl ⟨e, me, rfl⟩
      | ok y =>
        obtain ⟨name, l⟩ := y
        rw [eh] at me
        dsimp only at me ⊢
        have hname : d.named = true → (d.under name).last = name ∧ name ≠ [] := fun hn => by
          constructor
          · unfold HD.under
            rw [if_pos hn]
          · unfold hdrS at eh
            rw [if_pos hn] at eh
            cases en : nameAt ((bs.drop p).length + 1) p (prevOf d.last) (bs.drop p) with
            | error e => rw [en] at eh; cases eh
            | ok y =>
              obtain ⟨n, k⟩ := y
              rw [en] at eh
              dsimp only at eh
              cases ej : just (p + k) [58, 32] ((bs.drop p).drop k) with
              | error e => rw [ej] at eh; cases eh
              | ok u =>
                rw [ej] at eh
                cases eh
                exact name_ne en
        have hA := ihA (d.under name :: stk) (p + l) (by omega)
        unfold PA at hA
        rw [List.drop_drop]
        have hA : match shownAt f (stk.length + 1 + 1) (p + l) (bs.drop (p + l)) with
          | .error e => To bs (.vb (d.under name :: stk) (p + l)) (.error e)
          | .ok (v, n) => ∀ res, To bs (.en (d.under name :: stk) v.enc (p + l + n)) res → To bs (.vb (d.under name :: stk) (p + l)) res := hA
        cases es : shownAt f (stk.length + 1 + 1) (p + l) (bs.drop (p + l)) with
        | error e =>
          rw [es] at hA
          exact .inr ⟨_, _, me, hA⟩
        | ok y =>
          obtain ⟨v, used⟩ := y
          rw [es] at hA
          dsimp only at hA ⊢
          rw [List.drop_drop, ← Nat.add_assoc]
          have fin : ∀ res, To bs (.en (d.under name :: stk) v.enc (p + l + used)) res → ToM bs d stk p res := fun res h => .inr ⟨_, _, me, hA res h⟩
          generalize hP : p + l + used = P at *
          unfold tailS
          rw [hP]
          cases eb : bs[P]? with
          | none =>
            have e1 : bs.drop P = [] := List.drop_of_length_le (List.getElem?_eq_none_iff.mp eb)
            rw [e1]
            exact fin _ ⟨0, .eErr (by rw [e1]; rfl)⟩
          | some c =>
            have hlt := (List.getElem?_eq_some_iff.mp eb).1
            have ed := drop_at eb
            have eo : endAt (d.under name) v.enc P (bs.drop P) = if c = closeOf d.named then .ok (.inl (hEnc ((d.under name).more v.enc)), 1) else match Sw.just P [44, 32] (bs.drop P) with
                | .error e => .error e
                | .ok _ => (memAt ((d.under name).more v.enc) (P + 2) ((bs.drop P).drop 2)).map fun z => (.inr z.1, z.2 + 2) := by
              rw [ed, ← under_named d name]
              rfl
            rw [ed]
            dsimp only
            have ecl : (if d.named = true then (125 : UInt8) else 93) = closeOf d.named := rfl
            rw [ecl]
            by_cases hc : c = closeOf d.named
            · rw [if_pos hc]
              rw [if_pos hc] at eo
              rintro res ⟨m, h⟩
              refine fin res ⟨m + 1, .eIn eo ?_⟩
              have e1 : hEnc ⟨d.named, d.size + (Row.cons name v .nil).length, d.row ++ (Row.cons name v .nil).enc d.named, []⟩ = hEnc ((d.under name).more v.enc) := by
                show kOf d.named :: (vary (d.size + 1) ++ (d.row ++ ((if d.named = true then vary name.length ++ name else []) ++ (v.enc ++ [])))) = kOf (d.under name).named :: (vary ((d.under name).size + 1) ++ ((d.under name).row ++ v.enc))
                rw [under_named, under_size, under_row, List.append_nil, List.append_assoc]
              rw [e1, show p + (l + used + 1) = P + 1 by omega] at h
              exact h
            · rw [if_neg hc]
              rw [if_neg hc, just2, ed] at eo
              by_cases h44 : c = 44
              · rw [if_neg (fun z => z h44)]
                subst h44
                have e0 : Sw.just P [44] (44 :: bs.drop (P + 1)) = .ok () := by
                  rw [just_cons]
                  unfold Sw.just
                  rfl
                rw [e0] at eo
                have eo : endAt (d.under name) v.enc P (44 :: bs.drop (P + 1)) = match Sw.just (P + 1) [32] (bs.drop (P + 1)) with
                  | .error e => .error e
                  | .ok _ => (memAt ((d.under name).more v.enc) (P + 2) ((bs.drop (P + 1)).drop 1)).map fun z => (.inr z.1, z.2 + 2) := eo
                rw [← ed, List.drop_drop] at eo
                rw [List.drop_drop]
                cases ej : Sw.just (P + 1) [32] (bs.drop (P + 1)) with
                | error e =>
                  rw [ej] at eo
                  exact fin _ ⟨0, .eErr eo⟩
                | ok u =>
                  rw [ej] at eo
                  dsimp only at eo ⊢
                  have tom : ∀ res, ToM bs ((d.under name).more v.enc) stk (P + 2) res → ToM bs d stk p res := fun res h => by
                    rcases h with ⟨e, e1, rfl⟩ | ⟨d', n, e1, m, h⟩
                    · rw [e1] at eo
                      exact fin _ ⟨0, .eErr eo⟩
                    · rw [e1] at eo
                      have eo : endAt (d.under name) v.enc P (bs.drop P) = .ok (.inr d', n + 2) := eo
                      rw [show P + 2 + n = P + (n + 2) by omega] at h
                      exact fin _ ⟨m + 1, .eOp eo h⟩
                  have hB := ihB ((d.under name).more v.enc) stk (P + 2) (some name) (by omega) (fun hn => by
                    have hn : (d.under name).named = true := hn
                    rw [under_named] at hn
                    obtain ⟨h1, h2⟩ := hname hn
                    show some name = prevOf (d.under name).last
                    rw [h1]
                    unfold prevOf
                    rw [if_neg h2])
                  unfold PB at hB
                  have hn' : ((d.under name).more v.enc).named = d.named := under_named d name
                  rw [hn'] at hB
                  cases em : membersAt f (stk.length + 1) d.named (some name) (P + 2) (bs.drop (P + 1 + 1)) with
                  | error e =>
                    rw [em] at hB
                    exact tom _ hB
                  | ok y =>
                    obtain ⟨r, n⟩ := y
                    rw [em] at hB
                    dsimp only at hB ⊢
                    intro res h
                    refine tom res (hB res ?_)
                    have e1 : hEnc ⟨d.named, d.size + (Row.cons name v r).length, d.row ++ (Row.cons name v r).enc d.named, []⟩ = hEnc ⟨d.named, ((d.under name).more v.enc).size + r.length, ((d.under name).more v.enc).row ++ r.enc d.named, []⟩ := by
                      show kOf d.named :: (vary (d.size + (r.length + 1)) ++ (d.row ++ ((if d.named = true then vary name.length ++ name else []) ++ (v.enc ++ r.enc d.named)))) = kOf d.named :: (vary ((d.under name).size + 1 + r.length) ++ (((d.under name).row ++ v.enc) ++ r.enc d.named))
                      rw [under_size, under_row, show d.size + (r.length + 1) = d.size + 1 + r.length by omega]
                      simp only [List.append_assoc]
                    rw [e1, show p + (l + used + 2 + n) = P + 2 + n by omega] at h
                    exact h
              · rw [if_pos h44]
                have e0 : Sw.just P [44] (c :: bs.drop (P + 1)) = .error ⟨2, P⟩ := if_neg (fun z => h44 z.symm)
                rw [e0, ← ed] at eo
                exact fin _ ⟨0, .eErr eo⟩
end L2.J

set_option Elab.async false
set_option linter.all false
set_option maxRecDepth 100000
set_option maxHeartbeats 2000000
namespace L2.J
open PySem PySem.Spec PyProof.Rows L2.XC
/-! ### the holders in the heap -/
def ads : List (Addr × Addr × Addr) → List Addr
  | [] => []
  | (h, R, L) :: as => h :: R :: L :: ads as
def StkAt (CH : Addr) (G : Hp) : List (Addr × Addr × Addr) → List HD → Prop
  | [], [] => True
  | (h, R, L) :: as, d :: stk => HoAt CH G h R L d ∧ StkAt CH G as stk
  | _, _ => False
def wt : List HD → Nat
  | [] => 0
  | d :: s => d.row.length + wt s
theorem StkAt.len {CH : Addr} {G : Hp} : ∀ {as : List (Addr × Addr × Addr)} {stk : List HD}, StkAt CH G as stk → as.length = stk.length
  | [], [], _ => rfl
  | _ :: _, _ :: _, h => by rw [List.length_cons, List.length_cons, h.2.len]
  | [], _ :: _, h => h.elim
  | _ :: _, [], h => h.elim
theorem StkAt.keep {CH : Addr} {G G' : Hp} : ∀ {as : List (Addr × Addr × Addr)} {stk : List HD}, StkAt CH G as stk → (∀ b ∈ ads as, ∀ o, G b = some o → G' b = some o) → StkAt CH G' as stk
  | [], [], _, _ => trivial
  | (h, R, L) :: as, _ :: _, ⟨⟨⟨dx, h1⟩, h2, h3⟩, ht⟩, k => ⟨⟨⟨dx, k h (by simp [ads]) _ h1⟩, k R (by simp [ads]) _ h2, k L (by simp [ads]) _ h3⟩, ht.keep fun b hb => k b (by simp [ads, hb])⟩
  | [], _ :: _, h, _ => h.elim
  | _ :: _, [], h, _ => h.elim
theorem StkAt.live {CH : Addr} {G : Hp} : ∀ {as : List (Addr × Addr × Addr)} {stk : List HD}, StkAt CH G as stk → ∀ b ∈ ads as, ∃ o, G b = some o
  | [], [], _, b, hb => by cases hb
  | (h, R, L) :: as, _ :: _, ⟨⟨⟨dx, h1⟩, h2, h3⟩, ht⟩, b, hb => by
    rcases List.mem_cons.mp hb with rfl | hb
    · exact ⟨_, h1⟩
    · rcases List.mem_cons.mp hb with rfl | hb
      · exact ⟨_, h2⟩
      · rcases List.mem_cons.mp hb with rfl | hb
        · exact ⟨_, h3⟩
        · exact ht.live b hb
  | [], _ :: _, h, _, _ => h.elim
  | _ :: _, [], h, _, _ => h.elim
structure Iv (CR CH : Addr) (H0 G : Hp) (r a g : Addr) (bs : List UInt8) (as : List (Addr × Addr × Addr)) (stk : List HD) (p : Nat) : Prop where
  rd : RdAt CR G r a p
  gg : G g = some (.lst ((as.map (·.1)).reverse.map V.ref))
  st : StkAt CH G as stk
  nd : (ads as).Nodup
  nr : r ∉ ads as
  ng : g ∉ ads as
  fr : ∀ b ∈ ads as, H0 b = none
  fR : H0 r = none
  fG : H0 g = none
  sm : Same H0 G
  hp : p ≤ bs.length
  sz : ∀ d ∈ stk, d.size ≤ p
section
variable {CR CH : Addr} {H0 G G' : Hp} {r a g : Addr} {bs : List UInt8} {as : List (Addr × Addr × Addr)} {stk : List HD} {p n : Nat}
theorem Iv.gr (I : Iv CR CH H0 G r a g bs as stk p) : g ≠ r := by
  obtain ⟨dx, e⟩ := I.rd
  exact ne_of I.gg e (by intro z; cases z)
theorem same_of {S : List Addr} (s : Same H0 G) (k : KpS G G' S) (f : ∀ b ∈ S, H0 b = none) : Same H0 G' := fun b o e => k _ _ (s _ _ e) (fun z => by rw [f b z] at e; cases e)
theorem Iv.atom (I : Iv CR CH H0 G r a g bs as stk p) (rd : RdAt CR G' r a (p + n)) (k : Kp G G' r) (h : p + n ≤ bs.length) : Iv CR CH H0 G' r a g bs as stk (p + n) where
  rd := rd
  gg := k _ _ I.gg I.gr
  st := I.st.keep fun b hb o e => k _ _ e (fun z => I.nr (z ▸ hb))
  nd := I.nd
  nr := I.nr
  ng := I.ng
  fr := I.fr
  fR := I.fR
  fG := I.fG
  sm := same_of I.sm (S := [r]) (fun b o e hb => k b o e (fun z => hb (by simp [z]))) (fun b hb => by rw [List.mem_singleton.mp hb]; exact I.fR)
  hp := h
  sz := fun d hd => Nat.le_trans (I.sz d hd) (Nat.le_add_right _ _)
theorem Iv.open_ {h R L : Addr} {d : HD} (I : Iv CR CH H0 G r a g bs as stk p) (hh : G h = none) (hR : G R = none) (hL : G L = none) (nRL : R ≠ L) (rd : RdAt CR G' r a (p + n)) (ho : HoAt CH G' h R L d) (hg : G' g = some (.lst (((as.map (·.1)).reverse ++ [h]).map V.ref))) (k : KpS G G' [r, g]) (hp : p + n ≤ bs.length) (hs : d.size ≤ p + n) :
    Iv CR CH H0 G' r a g bs ((h, R, L) :: as) (d :: stk) (p + n) where
  rd := rd
  gg := by rw [List.map_cons, List.reverse_cons]; exact hg
  st := ⟨ho, I.st.keep fun b hb o e => k _ _ e (by
    rw [List.mem_cons, List.mem_singleton, not_or]
    exact ⟨fun z => I.nr (z ▸ hb), fun z => I.ng (z ▸ hb)⟩)⟩
  nd := by
    have fresh : ∀ x, G x = none → x ∉ ads as := fun x hx hb => by
      obtain ⟨o, e⟩ := I.st.live x hb
      rw [hx] at e; cases e
    obtain ⟨⟨dx, o1⟩, o2, o3⟩ := ho
    have n1 : h ≠ R := ne_of o1 o2 (by intro z; cases z)
    have n2 : h ≠ L := ne_of o1 o3 (by intro z; cases z)
    show (h :: R :: L :: ads as).Nodup
    rw [List.nodup_cons, List.nodup_cons, List.nodup_cons, List.mem_cons, List.mem_cons, List.mem_cons, not_or, not_or, not_or]
    exact ⟨⟨n1, n2, fresh h hh⟩, ⟨nRL, fresh R hR⟩, fresh L hL, I.nd⟩
  nr := by
    obtain ⟨dx, e⟩ := I.rd
    have f : ∀ x, G x = none → r ≠ x := fun x hx z => by rw [z, hx] at e; cases e
    show r ∉ h :: R :: L :: ads as
    rw [List.mem_cons, List.mem_cons, List.mem_cons, not_or, not_or, not_or]
    exact ⟨f h hh, f R hR, f L hL, I.nr⟩
  ng := by
    have e := I.gg
    have f : ∀ x, G x = none → g ≠ x := fun x hx z => by rw [z, hx] at e; cases e
    show g ∉ h :: R :: L :: ads as
    rw [List.mem_cons, List.mem_cons, List.mem_cons, not_or, not_or, not_or]
    exact ⟨f h hh, f R hR, f L hL, I.ng⟩
  fr := by
    intro b hb
    have hb : b ∈ h :: R :: L :: ads as := hb
    rw [List.mem_cons, List.mem_cons, List.mem_cons] at hb
    rcases hb with rfl | rfl | rfl | hb
    · exact I.sm.free hh
    · exact I.sm.free hR
    · exact I.sm.free hL
    · exact I.fr b hb
  fR := I.fR
  fG := I.fG
  sm := same_of I.sm k (fun b hb => by
    rw [List.mem_cons, List.mem_singleton] at hb
    rcases hb with rfl | rfl
    · exact I.fR
    · exact I.fG)
  hp := hp
  sz := fun x hx => by
    rcases List.mem_cons.mp hx with rfl | hx
    · exact hs
    · exact Nat.le_trans (I.sz x hx) (Nat.le_add_right _ _)
theorem Iv.nod {h R L : Addr} {d : HD} (I : Iv CR CH H0 G r a g bs ((h, R, L) :: as) (d :: stk) p) : h ∉ ads as ∧ R ∉ ads as ∧ L ∉ ads as ∧ (ads as).Nodup ∧ R ≠ L ∧ r ≠ h ∧ r ≠ R ∧ r ≠ L ∧ r ∉ ads as ∧ g ≠ h ∧ g ≠ R ∧ g ≠ L ∧ g ∉ ads as := by
  have nd : (h :: R :: L :: ads as).Nodup := I.nd
  have nr : r ∉ h :: R :: L :: ads as := I.nr
  have ng : g ∉ h :: R :: L :: ads as := I.ng
  rw [List.nodup_cons, List.nodup_cons, List.nodup_cons, List.mem_cons, List.mem_cons, List.mem_cons, not_or, not_or, not_or] at nd
  rw [List.mem_cons, List.mem_cons, List.mem_cons, not_or, not_or, not_or] at nr ng
  exact ⟨nd.1.2.2, nd.2.1.2, nd.2.2.1, nd.2.2.2, nd.2.1.1, nr.1, nr.2.1, nr.2.2.1, nr.2.2.2, ng.1, ng.2.1, ng.2.2.1, ng.2.2.2⟩
theorem Iv.close {h R L : Addr} {d : HD} (I : Iv CR CH H0 G r a g bs ((h, R, L) :: as) (d :: stk) p) (rd : RdAt CR G' r a (p + n)) (hg : G' g = some (.lst ((as.map (·.1)).reverse.map V.ref))) (k : KpS G G' [r, g, h, R]) (hp : p + n ≤ bs.length) : Iv CR CH H0 G' r a g bs as stk (p + n) := by
  obtain ⟨n1, n2, n3, n4, n5, n6, n7, n8, n9, n10, n11, n12, n13⟩ := I.nod
  exact {
    rd := rd
    gg := hg
    st := I.st.2.keep fun b hb o e => k _ _ e (by
      rw [List.mem_cons, List.mem_cons, List.mem_cons, List.mem_singleton, not_or, not_or, not_or]
      exact ⟨fun z => n9 (z ▸ hb), fun z => n13 (z ▸ hb), fun z => n1 (z ▸ hb), fun z => n2 (z ▸ hb)⟩)
    nd := n4
    nr := n9
    ng := n13
    fr := fun b hb => I.fr b (by simp [ads, hb])
    fR := I.fR
    fG := I.fG
    sm := same_of I.sm k (fun b hb => by
      rw [List.mem_cons, List.mem_cons, List.mem_cons, List.mem_singleton] at hb
      rcases hb with rfl | rfl | rfl | rfl
      · exact I.fR
      · exact I.fG
      · exact I.fr _ (by simp [ads])
      · exact I.fr _ (by simp [ads]))
    hp := hp
    sz := fun x hx => Nat.le_trans (I.sz x (by simp [hx])) (Nat.le_add_right _ _) }
theorem Iv.next {h R L L' : Addr} {d d' : HD} (I : Iv CR CH H0 G r a g bs ((h, R, L) :: as) (d :: stk) p) (rd : RdAt CR G' r a (p + n)) (ho : HoAt CH G' h R L' d') (nRL : R ≠ L') (hL : L' = L ∨ G L' = none) (hg : G' g = some (.lst (((as.map (·.1)).reverse ++ [h]).map V.ref))) (k : KpS G G' [r, h, R]) (hp : p + n ≤ bs.length) (hs : d'.size ≤ p + n) :
    Iv CR CH H0 G' r a g bs ((h, R, L') :: as) (d' :: stk) (p + n) := by
  obtain ⟨n1, n2, n3, n4, n5, n6, n7, n8, n9, n10, n11, n12, n13⟩ := I.nod
  have st := I.st.2
  obtain ⟨dr, er⟩ := I.rd
  have fL : L' ∉ ads as ∧ r ≠ L' ∧ g ≠ L' ∧ H0 L' = none := by
    rcases hL with rfl | hL
    · exact ⟨n3, n8, n12, I.fr _ (by simp [ads])⟩
    · refine ⟨fun hb => ?_, (fun z => by rw [← z, er] at hL; cases hL), (fun z => by rw [← z, I.gg] at hL; cases hL), I.sm.free hL⟩
      obtain ⟨o, e⟩ := st.live _ hb
      rw [hL] at e; cases e
  obtain ⟨⟨dx, o1⟩, o2, o3⟩ := id ho
  have m1 : h ≠ R := ne_of o1 o2 (by intro z; cases z)
  have m2 : h ≠ L' := ne_of o1 o3 (by intro z; cases z)
  exact {
    rd := rd
    gg := by rw [List.map_cons, List.reverse_cons]; exact hg
    st := ⟨ho, st.keep fun b hb o e => k _ _ e (by
      rw [List.mem_cons, List.mem_cons, List.mem_singleton, not_or, not_or]
      exact ⟨fun z => n9 (z ▸ hb), fun z => n1 (z ▸ hb), fun z => n2 (z ▸ hb)⟩)⟩
    nd := by
      show (h :: R :: L' :: ads as).Nodup
      rw [List.nodup_cons, List.nodup_cons, List.nodup_cons, List.mem_cons, List.mem_cons, List.mem_cons, not_or, not_or, not_or]
      exact ⟨⟨m1, m2, n1⟩, ⟨nRL, n2⟩, fL.1, n4⟩
    nr := by
      show r ∉ h :: R :: L' :: ads as
      rw [List.mem_cons, List.mem_cons, List.mem_cons, not_or, not_or, not_or]
      exact ⟨n6, n7, fL.2.1, n9⟩
    ng := by
      show g ∉ h :: R :: L' :: ads as
      rw [List.mem_cons, List.mem_cons, List.mem_cons, not_or, not_or, not_or]
      exact ⟨n10, n11, fL.2.2.1, n13⟩
    fr := by
      intro b hb
      have hb : b ∈ h :: R :: L' :: ads as := hb
      rw [List.mem_cons, List.mem_cons, List.mem_cons] at hb
      rcases hb with rfl | rfl | rfl | hb
      · exact I.fr _ (by simp [ads])
      · exact I.fr _ (by simp [ads])
      · exact fL.2.2.2
      · exact I.fr _ (by simp [ads, hb])
    fR := I.fR
    fG := I.fG
    sm := same_of I.sm k (fun b hb => by
      rw [List.mem_cons, List.mem_cons, List.mem_singleton] at hb
      rcases hb with rfl | rfl | rfl
      · exact I.fR
      · exact I.fr _ (by simp [ads])
      · exact I.fr _ (by simp [ads]))
    hp := hp
    sz := fun x hx => by
      rcases List.mem_cons.mp hx with rfl | hx
      · exact hs
      · exact Nat.le_trans (I.sz x (by simp [hx])) (Nat.le_add_right _ _) }
end
theorem mem_size {d d' : HD} {p n : Nat} {b : List UInt8} (h : memAt d p b = .ok (d', n)) : d'.size = d.size := by
  rw [memAt_hdr] at h
  cases e : hdrS d.named (prevOf d.last) p b with
  | error y => rw [e] at h; cases h
  | ok y =>
    rw [e] at h
    cases h
    exact under_size _ _
theorem begin_size {dep p n : Nat} {b : List UInt8} {d : HD} (h : beginAt dep p b = .ok (.inr d, n)) : d.size = 0 := by
  cases b with
  | nil => cases h
  | cons c r =>
    unfold beginAt at h
    dsimp only at h
    by_cases h1 : ¬ (atomB c = true ∨ c = 91 ∨ c = 123)
    · rw [if_pos h1] at h; cases h
    · rw [if_neg h1] at h
      by_cases h2 : 64 ≤ dep
      · rw [if_pos h2] at h; cases h
      · rw [if_neg h2] at h
        by_cases h3 : atomB c = true
        · rw [if_pos h3] at h
          cases e : atomAt p (c :: r) with
          | error y => rw [e] at h; cases h
          | ok y => rw [e] at h; cases h
        · rw [if_neg h3] at h
          cases r with
          | nil => cases h
          | cons dd s =>
            unfold openAt at h
            dsimp only at h
            by_cases h4 : dd = closeOf (decide (c = 123))
            · rw [if_pos h4] at h; cases h
            · rw [if_neg h4] at h
              cases e : memAt (hd0 (decide (c = 123))) (p + 1) (dd :: s) with
              | error y => rw [e] at h; cases h
              | ok y =>
                obtain ⟨d', k⟩ := y
                rw [e] at h
                cases h
                exact mem_size e
theorem end_size {d d' : HD} {u : List UInt8} {p n : Nat} {b : List UInt8} (h : endAt d u p b = .ok (.inr d', n)) : d'.size = d.size + 1 ∧ 2 ≤ n := by
  cases b with
  | nil => cases h
  | cons c r =>
    unfold endAt at h
    dsimp only at h
    by_cases h1 : c = closeOf d.named
    · rw [if_pos h1] at h; cases h
    · rw [if_neg h1] at h
      cases ej : Sw.just p [44, 32] (c :: r) with
      | error y => rw [ej] at h; cases h
      | ok y =>
        rw [ej] at h
        dsimp only at h
        cases e : memAt (d.more u) (p + 2) ((c :: r).drop 2) with
        | error y => rw [e] at h; cases h
        | ok y =>
          obtain ⟨d2, k⟩ := y
          rw [e] at h
          cases h
          exact ⟨mem_size e, by omega⟩
theorem end_in {d : HD} {u v : List UInt8} {p n : Nat} {b : List UInt8} (h : endAt d u p b = .ok (.inl v, n)) : v = hEnc (d.more u) ∧ n = 1 := by
  cases b with
  | nil => cases h
  | cons c r =>
    unfold endAt at h
    dsimp only at h
    by_cases h1 : c = closeOf d.named
    · rw [if_pos h1] at h; cases h; exact ⟨rfl, rfl⟩
    · rw [if_neg h1] at h
      cases ej : Sw.just p [44, 32] (c :: r) with
      | error y => rw [ej] at h; cases h
      | ok y =>
        rw [ej] at h
        dsimp only at h
        cases e : memAt (d.more u) (p + 2) ((c :: r).drop 2) with
        | error y => rw [e] at h; cases h
        | ok y => rw [e] at h; cases h
def parseB (bs : List UInt8) : Except Sw.Fault (List UInt8) := match Sw.parse bs with
  | .error e => .error e
  | .ok v => .ok v.enc
def finB (bs : List UInt8) (res : Res) : Except Sw.Fault (List UInt8) := match res with
  | .error e => .error e
  | .ok (w, n) => if n < bs.length then .error ⟨8, n⟩ else if 16777216 < w.length then .error ⟨9, 0⟩ else .ok w
theorem parse_to (bs : List UInt8) : ∃ res, To bs (.vb [] 0) res ∧ parseB bs = finB bs res := by
  have h := (runs bs (2 * bs.length + 4)).1 [] 0 (by omega)
  unfold PA at h
  unfold parseB Sw.parse
  have h : match Sw.shownAt (2 * bs.length + 4) 1 0 bs with
    | .error e => To bs (.vb [] 0) (.error e)
    | .ok (v, n) => ∀ res, To bs (.en [] v.enc (0 + n)) res → To bs (.vb [] 0) res := h
  cases e : Sw.shownAt (2 * bs.length + 4) 1 0 bs with
  | error y =>
    rw [e] at h
    exact ⟨_, h, rfl⟩
  | ok y =>
    obtain ⟨v, n⟩ := y
    rw [e] at h
    dsimp only at h ⊢
    refine ⟨.ok (v.enc, 0 + n), h _ ⟨0, .done⟩, ?_⟩
    rw [Nat.zero_add]
    unfold finB
    dsimp only
    by_cases h1 : n < bs.length
    · rw [if_pos h1, if_pos h1]
    · rw [if_neg h1, if_neg h1]
      by_cases h2 : Sw.MOST < v.enc.length
      · rw [if_pos h2, if_pos (show 16777216 < v.enc.length from h2)]
      · rw [if_neg h2, if_neg (show ¬ 16777216 < v.enc.length from h2)]
end L2.J

set_option Elab.async false
set_option linter.all false
set_option maxRecDepth 100000
set_option maxHeartbeats 2000000
namespace L2.J
open PySem PySem.Spec PyProof.Rows L2.XC
def spXT (K : PySem.W.Frag) (CF : Addr) : Sp := fun vs H Q E => ∃ (a : Addr) (bs : List UInt8), vs = [.ref a] ∧ SqL K H a (bs.map bv) ∧ bs.length ≤ 65536 ∧
  Out E CF (parseB bs) fun (u : List UInt8) => ∀ (t : Addr) (H' : Hp), Same H H' → H' t = some (.lst (u.map bv)) → u.length ≤ 458752 → Q (.ref t) H'
def readL (bs : List UInt8) : List Int := match parseB bs with
  | .error e => [-6, (e.kind : Int), (e.place : Int)]
  | .ok u => 0 :: bInts u
def spRD (K : PySem.W.Frag) : Sp := fun vs H Q _ => ∃ (a : Addr) (bs : List UInt8), vs = [.ref a] ∧ SqL K H a (bs.map bv) ∧ bs.length ≤ 65536 ∧ ∀ (H' : Hp) (p : Addr), H' p = some (.lst ((readL bs).map V.int)) → Q (.ref p) H'
/-- between two turns -/
def Wt (CR CH : Addr) (H0 : Hp) (r a g : Addr) (bs : List UInt8) (res : Res) (m : Nat) (σ : St) (G : Hp) : Prop :=
  (∃ d stk p as, Rn bs m (.vb (d :: stk) p) res ∧ σ = [some (.ref a), some (.ref r), some (.ref g), some .non] ∧ Iv CR CH H0 G r a g bs as (d :: stk) p ∧ wt (d :: stk) ≤ 7 * p) ∨
  (∃ stk u p as x, Rn bs m (.en stk u p) res ∧ σ = [some (.ref a), some (.ref r), some (.ref g), some (.ref x)] ∧ Iv CR CH H0 G r a g bs as stk p ∧ G x = some (.lst (u.map bv)) ∧ wt stk + u.length ≤ 7 * p)
section
variable {K : PySem.W.Frag} {CF CR CH : Addr} {H0 G : Hp} {r a g : Addr} {bs : List UInt8} {res : Res} {E : XK}
theorem beg_ok {m : Nat} {stk : List HD} {p : Nat} {as : List (Addr × Addr × Addr)} {Q : VK} (hs : SqL K H0 a (bs.map bv)) (hz : bs.length ≤ 65536) (er : ∀ e, res = .error e → Err E CF (.int (e.kind : Int)) (.int (e.place : Int)))
    (h : Rn bs m (.vb stk p) res) (I : Iv CR CH H0 G r a g bs as stk p) (hw : wt stk ≤ 7 * p) (q : ∀ m' v G', m = m' + 1 → Wt CR CH H0 r a g bs res m' [some (.ref a), some (.ref r), some (.ref g), some v] G' → Q v G') : spXB K CF CR CH [.ref r, .ref g] G Q E := by
  refine ⟨r, a, g, p, bs, (as.map (·.1)).reverse, rfl, I.rd, I.sm.seq hs, I.hp, hz, sq_fresh hs I.fG, I.gg, ?_⟩
  have hl : ((as.map (·.1)).reverse).length = stk.length := by rw [List.length_reverse, List.length_map, I.st.len]
  rw [hl]
  cases h with
  | vErr e1 =>
    rw [e1]
    exact er _ rfl
  | @vIn _ _ u n m' _ e1 h' =>
    rw [e1]
    intro t G' rd k ht ht' l hu
    have l : p + n ≤ bs.length := l
    have hu : u.length ≤ 7 * n := hu
    exact q m' _ G' rfl (.inr ⟨stk, u, p + n, as, t, h', rfl, I.atom rd k l, ht', by omega⟩)
  | @vOp _ _ d n m' _ e1 h' =>
    rw [e1]
    intro h R L G' hh hR hL nRL rd ho hg k l hu
    have l : p + n ≤ bs.length := l
    have hu : d.row.length ≤ 7 * n := hu
    refine q m' _ G' rfl (.inl ⟨d, stk, p + n, (h, R, L) :: as, h', rfl, I.open_ hh hR hL nRL rd ho hg k l (by rw [begin_size e1]; omega), ?_⟩)
    show d.row.length + wt stk ≤ _
    omega
theorem end_ok {m : Nat} {d : HD} {stk : List HD} {u : List UInt8} {p : Nat} {h R L x : Addr} {as : List (Addr × Addr × Addr)} {Q : VK} (hs : SqL K H0 a (bs.map bv)) (hz : bs.length ≤ 65536) (er : ∀ e, res = .error e → Err E CF (.int (e.kind : Int)) (.int (e.place : Int)))
    (hr : Rn bs m (.en (d :: stk) u p) res) (I : Iv CR CH H0 G r a g bs ((h, R, L) :: as) (d :: stk) p) (hx : G x = some (.lst (u.map bv))) (hw : wt (d :: stk) + u.length ≤ 7 * p) (q : ∀ m' v G', m = m' + 1 → Wt CR CH H0 r a g bs res m' [some (.ref a), some (.ref r), some (.ref g), some v] G' → Q v G') : spXE K CF CR CH [.ref r, .ref g, .ref x] G Q E := by
  have hw : d.row.length + wt stk + u.length ≤ 7 * p := hw
  obtain ⟨n1, n2, n3, n4, n5, n6, n7, n8, n9, n10, n11, n12, n13⟩ := I.nod
  have hp := I.hp
  have hsz := I.sz d (by simp)
  have hg := I.gg
  rw [List.map_cons, List.reverse_cons] at hg
  refine ⟨r, a, g, x, h, R, L, p, bs, u, (as.map (·.1)).reverse, d, rfl, I.rd, I.sm.seq hs, hp, hz, sq_fresh hs (I.fr R (by simp [ads])), sq_fresh hs I.fG, hg, I.st.1, n5, n11, n12, hx, by omega, by omega, ?_⟩
  cases hr with
  | eErr e1 =>
    rw [e1]
    exact er _ rfl
  | @eIn _ _ _ _ v n m' _ e1 h' =>
    rw [e1]
    intro t G' rd ht ht' hg' k l
    have l : p + n ≤ bs.length := l
    obtain ⟨rfl, rfl⟩ := end_in e1
    refine q m' _ G' rfl (.inr ⟨stk, _, p + 1, as, t, h', rfl, I.close rd hg' k l, ht', ?_⟩)
    have l5 := vary_len5 (n := d.size + 1) (by omega)
    unfold hEnc
    show wt stk + (kOf d.named :: (Sw.vary (d.size + 1) ++ (d.row ++ u))).length ≤ _
    rw [List.length_cons, List.length_append, List.length_append]
    omega
  | @eOp _ _ _ _ d' n m' _ e1 h' =>
    rw [e1]
    intro L' G' rd ho nRL hL hg' k l hu
    have l : p + n ≤ bs.length := l
    have hu : d'.row.length ≤ d.row.length + u.length + 7 * n := hu
    obtain ⟨s1, s2⟩ := end_size e1
    refine q m' _ G' rfl (.inl ⟨d', stk, p + n, (h, R, L') :: as, h', rfl, I.next rd ho nRL hL hg' k l (by omega), ?_⟩)
    show d'.row.length + wt stk ≤ _
    omega
end
section
variable {K : PySem.W.Frag} {CF CR CH : Addr} {H0 G : Hp} {r a g : Addr} {bs : List UInt8} {res : Res} {E : XK}
theorem beg_okT {σ : St} {m : Nat} {stk : List HD} {p : Nat} {as : List (Addr × Addr × Addr)} {Q : VK} (h1 : σ[1]? = some (some (.ref r))) (h2 : σ[2]? = some (some (.ref g))) (hs : SqL K H0 a (bs.map bv)) (hz : bs.length ≤ 65536) (er : ∀ e, res = .error e → Err E CF (.int (e.kind : Int)) (.int (e.place : Int)))
    (h : Rn bs m (.vb stk p) res) (I : Iv CR CH H0 G r a g bs as stk p) (hw : wt stk ≤ 7 * p) (q : ∀ m' v G', m = m' + 1 → Wt CR CH H0 r a g bs res m' [some (.ref a), some (.ref r), some (.ref g), some v] G' → Q v G') : tCall (spXB K CF CR CH) [] E (tCons (tVar 1) (tCons (tVar 2) tNil)) σ G Q :=
  ⟨_, h1, _, h2, beg_ok hs hz er h I hw q⟩
theorem end_okT {σ : St} {m : Nat} {d : HD} {stk : List HD} {u : List UInt8} {p : Nat} {h R L x : Addr} {as : List (Addr × Addr × Addr)} {Q : VK} (h1 : σ[1]? = some (some (.ref r))) (h2 : σ[2]? = some (some (.ref g))) (h3 : σ[3]? = some (some (.ref x))) (hs : SqL K H0 a (bs.map bv)) (hz : bs.length ≤ 65536) (er : ∀ e, res = .error e → Err E CF (.int (e.kind : Int)) (.int (e.place : Int)))
    (hr : Rn bs m (.en (d :: stk) u p) res) (I : Iv CR CH H0 G r a g bs ((h, R, L) :: as) (d :: stk) p) (hx : G x = some (.lst (u.map bv))) (hw : wt (d :: stk) + u.length ≤ 7 * p) (q : ∀ m' v G', m = m' + 1 → Wt CR CH H0 r a g bs res m' [some (.ref a), some (.ref r), some (.ref g), some v] G' → Q v G') : tCall (spXE K CF CR CH) [] E (tCons (tVar 1) (tCons (tVar 2) (tCons (tVar 3) tNil))) σ G Q :=
  ⟨_, h1, _, h2, _, h3, end_ok hs hz er hr I hx hw q⟩
end
section
variable {P : Program} {w : World} {K : PySem.W.Frag} {mg : Str → Option Value} {base : Heap} {CF CR CH fFI : Addr}
theorem scXT : FnScope ["row", "reader", "begun", "whole"] ["row"] (defScope sXT) := ⟨rfl, rfl, rfl, by decide +kernel, rfl, by decide +kernel, by decide +kernel⟩
theorem ok_XT {f fRI fXB fXE : Addr} {fd fdR fdB fdE fdI : FuncData} (F : Fun K "read_text" "read_text" sXT f fd) (T : TxR K mg CF CR fFI) (FI : Fun K "__init__" "Fault.__init__" sFI fFI fdI) (bI : Binds K fdI ["self", "kind", "place"] [])
    (mRd : mg "Reader" = some (.ref CR)) (e8 : GI mg "BYTES_BEHIND" 8) (e9 : GI mg "TOO_LONG" 9) (lv : GI mg "LONGEST_VALUE" 16777216)
    (M : Mk K CR fRI) (GR : FnOk P w K mg base CX0 1 fRI fdR ["self", "row"] (spRI CR)) (bR : Binds K fdR ["self", "row"] [])
    (GB : FnOk P w K mg base (CXF P w) 11 fXB fdB ["reader", "begun"] (spXB K CF CR CH)) (bB : Binds K fdB ["reader", "begun"] []) (kB : PySem.W.keepIn K (.ref fXB) = true) (mB : mg "begin_value" = some (.ref fXB))
    (GE : FnOk P w K mg base (CXF P w) 11 fXE fdE ["reader", "begun", "value"] (spXE K CF CR CH)) (bE : Binds K fdE ["reader", "begun", "value"] []) (kE : PySem.W.keepIn K (.ref fXE) = true) (mE : mg "end_member" = some (.ref fXE)) :
    FnOk P w K mg base (CXF P w) 12 f fd ["row"] (spXT K CF) := by
  have GI : FnOk P w K mg base CX0 1 fFI fdI ["self", "kind", "place"] (spXI CF) := ok_FI FI T
  refine okX F scXT (fun vs H Q E h => ?_) (fun cdv A outer s H vs Q E hr h => ?_)
  · obtain ⟨a, bs, rfl, _⟩ := h
    rfl
  · obtain ⟨a, bs, rfl, hs, hz, q⟩ := h
    have hr2 : Room 2 _ := hr.mono (by decide)
    refine ⟨_, pss_cons (ps_set (i := 1) scXT.nd rfl (Or.inl rfl) (pe_make M GR hr2 rfl mRd bR .nil pass0 (pa_cons (pv 0) pa_nil)))
      (pss_cons (ps_set (i := 2) scXT.nd rfl (Or.inl rfl) (pe_lst pa_nil))
      (pss_cons (ps_set (i := 3) scXT.nd rfl (Or.inl rfl) (pe_call GB hr rfl mB kB bB .nil passX (pa_cons (pv 1) (pa_cons (pv 2) pa_nil))))
      (pss_cons (ps_while PassesOwn.leaving (pt_truth (pv 2) (fun _ => rfl))
        (pss_one (ps_if (pt_cmpR op_isN (pv 3) pe_non (nomark _))
          (pss_one (ps_set (i := 3) scXT.nd rfl (Or.inl rfl) (pe_call GB hr rfl mB kB bB .nil passX (pa_cons (pv 1) (pa_cons (pv 2) pa_nil)))))
          (pss_one (ps_set (i := 3) scXT.nd rfl (Or.inl rfl) (pe_call GE hr rfl mE kE bE .nil passX (pa_cons (pv 1) (pa_cons (pv 2) (pa_cons (pv 3) pa_nil)))))))))
      (pss_cons (ps_if (pt_cmpR op_lt (pe_fld (pv 1) rfl) (pe_callB call_len_seq (by rfl) T.len PySem.boot_len (pa_cons (pv 0) pa_nil)) (nomark _))
        (pss_one (ps_raise T.xc GI bI hr2 flies_cx rfl rfl T.mF (pa_cons (pgi e8 rfl) (pa_cons (pe_fld (pv 1) rfl) pa_nil)))) pss_nil)
      (pss_cons (ps_if (pt_cmpR op_gt (pe_callB call_len_seq (by rfl) T.len PySem.boot_len (pa_cons (pv 3) pa_nil)) (pgi lv rfl) (nomark _))
        (pss_one (ps_raise T.xc GI bI hr2 flies_cx rfl rfl T.mF (pa_cons (pgi e9 rfl) (pa_cons pe_int pa_nil)))) pss_nil)
      (pss_one (ps_ret (pv 3)))))))), ?_⟩
    obtain ⟨res, ⟨m0, hrun⟩, eres⟩ := parse_to bs
    rw [eres] at q
    have er : ∀ e, res = .error e → Err E CF (.int (e.kind : Int)) (.int (e.place : Int)) := fun e z => by
      rw [z] at q
      exact q
    refine ⟨_, rfl, fun r dr nr ndr nedr => ⟨r, dr, a, rfl, upd_same, fun H1 rd1 k1 => ⟨rfl, ?_⟩⟩⟩
    have s1 : Same H H1 := fun b o e => k1 _ _ (by rw [upd_ne (ne_of_none e nr), upd_ne (ne_of_none e ndr)]; exact e) (ne_of_none e nr)
    refine ⟨(by show 0 ≤ sizeLine; decide), fun g hg => ?_⟩
    have k2 : Same H1 (upd H1 g (.lst [])) := fun b o e => (upd_ne (ne_of_none e hg)).trans e
    have I0 : Iv CR CH H (upd H1 g (.lst [])) r a g bs [] [] 0 := {
      rd := let ⟨d, e⟩ := rd1; ⟨d, k2 _ _ e⟩
      gg := by rw [upd_same]; rfl
      st := trivial
      nd := List.nodup_nil
      nr := fun z => by cases z
      ng := fun z => by cases z
      fr := fun b z => by cases z
      fR := nr
      fG := s1.free hg
      sm := s1.trans k2
      hp := Nat.zero_le _
      sz := fun d z => by cases z }
    refine beg_okT rfl rfl hs hz er hrun I0 (by show 0 ≤ 7 * 0; omega) (fun m1 v G1 _ hW => ?_)
    refine ⟨Wt CR CH H r a g bs res, ⟨m1, hW⟩, ?_⟩
    rintro m σ G hW
    rcases hW with ⟨d, stk, p, as, hR, rfl, I, hw⟩ | ⟨stk, u, p, as, x, hR, rfl, I, hx, hw⟩
    · have hlen := I.st.len
      refine ⟨_, rfl, _, .inl ⟨_, SqL.of I.gg, rfl⟩, ?_⟩
      have ht : (!((as.map (·.1)).reverse.map V.ref).isEmpty) = true := by
        cases as with
        | nil => rw [List.length_nil, List.length_cons] at hlen; omega
        | cons y l => simp
      rw [ht]
      refine iteT ⟨_, fun σ' G' h => h, ?_⟩
      refine ⟨_, rfl, rfl, _, rfl, ?_⟩
      refine iteT ?_
      exact beg_okT rfl rfl hs hz er hR I hw (fun m' v G' hm hW => ⟨m', by omega, hW⟩)
    · cases stk with
      | cons d stk =>
        have hlen := I.st.len
        cases as with
        | nil => rw [List.length_nil, List.length_cons] at hlen; omega
        | cons y as =>
          obtain ⟨h, R, L⟩ := y
          refine ⟨_, rfl, _, .inl ⟨_, SqL.of I.gg, rfl⟩, ?_⟩
          have ht : (!((((h, R, L) :: as).map (·.1)).reverse.map V.ref).isEmpty) = true := by simp
          rw [ht]
          refine iteT ⟨_, fun σ' G' h => h, ?_⟩
          refine ⟨_, rfl, rfl, _, rfl, ?_⟩
          rw [decide_eq_false (by intro z; cases z)]
          refine iteF ?_
          exact end_okT rfl rfl rfl hs hz er hR I hx hw (fun m' v G' hm hW => ⟨m', by omega, hW⟩)
      | nil =>
        have hlen := I.st.len
        have ea : as = [] := List.length_eq_zero_iff.mp hlen
        subst ea
        cases hR with
        | done =>
        refine ⟨_, rfl, _, .inl ⟨_, SqL.of I.gg, rfl⟩, ?_⟩
        refine iteF ?_
        obtain ⟨dg, hg'⟩ := I.rd
        have hsG := I.sm.seq hs
        have hw : 0 + u.length ≤ 7 * p := hw
        have hp := I.hp
        refine ⟨_, rfl, r, CR, dg, _, _, rfl, hg', T.cR, T.nPl, rf_place a p, _, rfl, a, _, rfl, .inl hsG, _, _, rfl, rfl, _, rfl, ?_⟩
        rw [List.length_map]
        have q : Out E CF (if p < bs.length then .error ⟨8, p⟩ else if 16777216 < u.length then .error ⟨9, 0⟩ else .ok u : Except Sw.Fault (List UInt8)) fun (u : List UInt8) => ∀ (t : Addr) (H' : Hp), Same H H' → H' t = some (.lst (u.map bv)) → u.length ≤ 458752 → Q (.ref t) H' := q
        by_cases hlt : p < bs.length
        · rw [decide_eq_true (by omega)]
          rw [if_pos hlt] at q
          exact iteT ⟨_, rfl, r, CR, dg, _, _, rfl, hg', T.cR, T.nPl, rf_place a p, _, _, rfl, q⟩
        · rw [decide_eq_false (by omega)]
          rw [if_neg hlt, if_neg (by omega)] at q
          refine iteF ⟨_, rfl, x, _, rfl, .inl (SqL.of hx), _, _, rfl, rfl, _, rfl, ?_⟩
          rw [List.length_map, decide_eq_false (by omega)]
          exact iteF ⟨_, rfl, q x G I.sm hx (by omega)⟩
theorem op_catX {X : Cx} {K : PySem.W.Frag} (hK : X.K = K) : OpR X (binaryOp .Add) (rCatL K) := by
  subst hK
  exact op_catL
theorem scRD : FnScope ["t", "fault"] ["t"] (defScope sRD) := ⟨rfl, rfl, rfl, by decide +kernel, rfl, by decide +kernel, by decide +kernel⟩
theorem ok_RD {f fXT : Addr} {fd fdT : FuncData} (F : Fun K "read" "read" sRD f fd) (xc : XCls K CF fFI) (mF : mg "Fault" = some (.ref CF))
    (GT : FnOk P w K mg base (CXF P w) 12 fXT fdT ["row"] (spXT K CF)) (bT : Binds K fdT ["row"] []) (kT : PySem.W.keepIn K (.ref fXT) = true) (mT : mg "read_text" = some (.ref fXT)) :
    FnOk P w K mg base CX0 13 f fd ["t"] (spRD K) := by
  refine F.ok scRD (fun vs H Q E h => ?_) (fun cdv A outer s H vs Q E hr h => ?_)
  · obtain ⟨a, bs, rfl, _⟩ := h
    rfl
  · obtain ⟨a, bs, rfl, hs, hz, q⟩ := h
    refine ⟨_, pss_one (ps_tryAs (i := 1) xc rfl mF rfl ⟨outer, rfl⟩ scRD.nd rfl rfl
        (fun pn xe E' fl => pss_one (ps_ret (pe_op (op_catX rfl) (pe_lst (pa_cons pe_int pa_nil)) (pe_call GT hr rfl mT kT bT .nil (passes_of fl rfl) (pa_cons (pv 0) pa_nil)))))
        (fun v => pss_one (ps_ret (pe_lst (pa_cons (pe_un un_neg pe_int) (pa_cons (pe_xf xc (.inl rfl) (pv 1) rfl) (pa_cons (pe_xf xc (.inr rfl) (pv 1) rfl) pa_nil))))))), ?_⟩
    refine ⟨(by show 1 ≤ sizeLine; decide), fun y hy => ?_⟩
    have ky : Same H (upd H y (.lst [V.int 0])) := fun b o e => (upd_ne (ne_of_none e hy)).trans e
    refine ⟨_, rfl, a, bs, rfl, ky.seq hs, hz, ?_⟩
    unfold readL at q
    cases ew : parseB bs with
    | error e =>
      rw [ew] at q
      intro H' dx hdx
      refine ⟨rfl, dx, rfl, fun e' he' => ?_⟩
      have ne : dx ≠ e' := ne_of_none hdx he'
      have h1 : upd H' e' (XL e' CF dx) dx = some (XD dx (kp (.int (e.kind : Int)) (.int (e.place : Int)))) := by rw [upd_ne ne]; exact hdx
      refine ⟨_, rfl, _, rfl, e', dx, _, .int (e.kind : Int), rfl, upd_same, h1, rfl, _, rfl, e', dx, _, .int (e.place : Int), rfl, upd_same, h1, rfl, (by show 3 ≤ sizeLine; decide), fun p hp => ?_⟩
      exact q _ p upd_same
    | ok u =>
      rw [ew] at q
      intro t H' sm ht hl
      refine ⟨y, t, _, _, rfl, rfl, SqL.of (sm _ _ upd_same), SqL.of ht, ?_, fun p hp => q _ p ?_⟩
      · rw [List.length_map, sizeLine_eq]
        show 1 + _ ≤ _
        omega
      · rw [upd_same]
        show some (HO.lst (V.int 0 :: u.map bv)) = some (HO.lst (V.int 0 :: (bInts u).map V.int))
        rw [bv_ints]
end
theorem read_is (bs : List UInt8) (h : bs.length ≤ 65536) : PyYqswga.read (bInts bs) = readL bs := by
  show ansL (if Sw.TEXT < (ValuesNeutral.text (bInts bs)).length then Values.num (-2) else (match Sw.parse (ValuesNeutral.text (bInts bs)) with
    | .error e => Values.faulty e
    | .ok v => Values.gives v.enc)) = _
  rw [text_ints, if_neg (by show ¬ 33554432 < bs.length; omega)]
  unfold readL parseB
  cases Sw.parse bs with
  | error e => rfl
  | ok v => rfl
end L2.J

set_option Elab.async false
set_option linter.all false
set_option maxRecDepth 100000
set_option maxHeartbeats 2000000
namespace L2.J
open PySem PySem.Spec PyProof.Rows L2.XC
theorem all_mk {P : Program} {w : World} {K : PySem.W.Frag} {h : Heap} {mg : Str → Option Value} {fa CF CR CH N : Addr} (X : K.In h) (G : h.Ns mainGlobals mg) (hfa : mg "read" = some (.ref fa))
    {nm q : Str} {bs : List Value} {sn : List Str} {sub : List Value} {ab : Bool} {col : Option Bool} {dd : Option Addr} {k0 k1 k2 k3 k5 : Option Value} {oN : Obj}
    {fFI fRI fSB fRB fPB fSL fLS fHS fPS fRG fHI fSO fXW fI1 fIL fIG fSI fIU fFG fXF fX2 fXI fXG fXO fXD fXK fXL fXQ fXP fXS fVR fAR fNR fIR fKR fXU fMR fXM fX0 fXA fXC fXH fXN fRN fBM fXB fXE fXT fEN : Addr}
    {odFI anFI odRI anRI odSB anSB odRB anRB odPB anPB odSL anSL odLS anLS odHS anHS odPS anPS odRG anRG odHI anHI odSO anSO odXW anXW odI1 anI1 odIL anIL odIG anIG odSI anSI odIU anIU odFG anFG odXF anXF odX2 anX2 odXI anXI odXG anXG odXO anXO odXD anXD odXK anXK odXL anXL odXQ anXQ odXP anXP odXS anXS odVR anVR odAR anAR odNR anNR odIR anIR odKR anKR odXU anXU odMR anMR odXM anXM odX0 anX0 odXA anXA odXC anXC odXH anXH odXN anXN odRN anRN odBM anBM odXB anXB odXE anXE odXT anXT odEN anEN : Option Addr}
    {slFI slRI slSB slRB slPB slSL slLS slHS slPS slRG slHI slSO slXW slI1 slIL slIG slSI slIU slFG slXF slX2 slXI slXG slXO slXD slXK slXL slXQ slXP slXS slVR slAR slNR slIR slKR slXU slMR slXM slX0 slXA slXC slXH slXN slRN slBM slXB slXE slXT slEN : Array (Option Value)}
    {ocFI kVFI dcFI pmFI cdFI ctFI ocRI kVRI dcRI pmRI cdRI ctRI ocSB kVSB dcSB pmSB cdSB ctSB ocRB kVRB dcRB pmRB cdRB ctRB ocPB kVPB dcPB pmPB cdPB ctPB ocSL kVSL dcSL pmSL cdSL ctSL ocLS kVLS dcLS pmLS cdLS ctLS ocHS kVHS dcHS pmHS cdHS ctHS ocPS kVPS dcPS pmPS cdPS ctPS ocRG kVRG dcRG pmRG cdRG ctRG ocHI kVHI dcHI pmHI cdHI ctHI ocSO kVSO dcSO pmSO cdSO ctSO ocXW kVXW dcXW pmXW cdXW ctXW ocI1 kVI1 dcI1 pmI1 cdI1 ctI1 ocIL kVIL dcIL pmIL cdIL ctIL ocIG kVIG dcIG pmIG cdIG ctIG ocSI kVSI dcSI pmSI cdSI ctSI ocIU kVIU dcIU pmIU cdIU ctIU ocFG kVFG dcFG pmFG cdFG ctFG ocXF kVXF dcXF pmXF cdXF ctXF ocX2 kVX2 dcX2 pmX2 cdX2 ctX2 ocXI kVXI dcXI pmXI cdXI ctXI ocXG kVXG dcXG pmXG cdXG ctXG ocXO kVXO dcXO pmXO cdXO ctXO ocXD kVXD dcXD pmXD cdXD ctXD ocXK kVXK dcXK pmXK cdXK ctXK ocXL kVXL dcXL pmXL cdXL ctXL ocXQ kVXQ dcXQ pmXQ cdXQ ctXQ ocXP kVXP dcXP pmXP cdXP ctXP ocXS kVXS dcXS pmXS cdXS ctXS ocVR kVVR dcVR pmVR cdVR ctVR ocAR kVAR dcAR pmAR cdAR ctAR ocNR kVNR dcNR pmNR cdNR ctNR ocIR kVIR dcIR pmIR cdIR ctIR ocKR kVKR dcKR pmKR cdKR ctKR ocXU kVXU dcXU pmXU cdXU ctXU ocMR kVMR dcMR pmMR cdMR ctMR ocXM kVXM dcXM pmXM cdXM ctXM ocX0 kVX0 dcX0 pmX0 cdX0 ctX0 ocXA kVXA dcXA pmXA cdXA ctXA ocXC kVXC dcXC pmXC cdXC ctXC ocXH kVXH dcXH pmXH cdXH ctXH ocXN kVXN dcXN pmXN cdXN ctXN ocRN kVRN dcRN pmRN cdRN ctRN ocBM kVBM dcBM pmBM cdBM ctBM ocXB kVXB dcXB pmXB cdXB ctXB ocXE kVXE dcXE pmXE cdXE ctXE ocXT kVXT dcXT pmXT cdXT ctXT ocEN kVEN dcEN pmEN cdEN ctEN : Value}
    {tENDS_TOO_SOON tWRONG_SIGN tLOWEST_FURTHER tHIGHEST_FURTHER tWRONG_UTF8 tLONGEST_NUMBER tTEXT tLONGEST_NAME tWRONG_NAME tNUMBER tBYTES tLIST tRECORD tMOMENT tIDENTITY tDEEPEST tMOMENT_LENGTH tIDENTITY_LENGTH tTOO_DEEP tBYTES_BEHIND tOUT_OF_RANGE tTOO_LONG tLONGEST_VALUE tNO tYES tLINE_FEED tBLANK tQUOTE tID_SIGN tCOMMA tMINUS tNOUGHT tCOLON tMOMENT_SIGN tLIST_OPEN tBACKSLASH tLIST_CLOSE tUNDERLINE tSMALL_N tSMALL_U tSMALL_X tSMALL_Y tRECORD_OPEN tRECORD_CLOSE tDELETE tMOST_FIGURES : PySem.Tok}
    (aCF : PySem.W.nsIn K mainGlobals "Fault" = some (some (.ref CF)))
    (aCR : PySem.W.nsIn K mainGlobals "Reader" = some (some (.ref CR)))
    (aCH : PySem.W.nsIn K mainGlobals "Holder" = some (some (.ref CH)))
    (lCF : K.lookup CF = some (excClassObj nm q CF N bs bmE true sn sub ab col dd k0 k1 k2 k3 k5 "Exception.__new__"))
    (lN : K.lookup N = some oN)
    (okN : keysOk oN = true)
    (xI : PySem.W.nsIn K N "__init__" = some (some (.ref fFI)))
    (xS : PySem.W.nsIn K N "__setattr__" = some none)
    (xG : PySem.W.nsIn K N "__getattribute__" = some none)
    (xH : PySem.W.nsIn K N "__getattr__" = some none)
    (xK : PySem.W.nsIn K N "kind" = some none)
    (xP : PySem.W.nsIn K N "place" = some none)
    (kCF : PySem.W.keepIn K (.ref CF) = true)
    (pgCR : PySem.W.plainGet K CR Str.empty = true)
    (hdCR : PySem.W.hasDictIn K CR = true)
    (poCR : PySem.W.plainOver K CR = true)
    (saCR : PySem.W.findIn K (.ref CR) "__setattr__" = some (some (.builtin "object.__setattr__")))
    (mkCR : PySem.W.makesIn K CR = true)
    (kcCR : PySem.W.keepIn K (.ref CR) = true)
    (nCR_row : PySem.W.findIn K (.ref CR) "row" = some none)
    (nCR_place : PySem.W.findIn K (.ref CR) "place" = some none)
    (pgCH : PySem.W.plainGet K CH Str.empty = true)
    (hdCH : PySem.W.hasDictIn K CH = true)
    (poCH : PySem.W.plainOver K CH = true)
    (saCH : PySem.W.findIn K (.ref CH) "__setattr__" = some (some (.builtin "object.__setattr__")))
    (mkCH : PySem.W.makesIn K CH = true)
    (kcCH : PySem.W.keepIn K (.ref CH) = true)
    (nCH_kind : PySem.W.findIn K (.ref CH) "kind" = some none)
    (nCH_size : PySem.W.findIn K (.ref CH) "size" = some none)
    (nCH_row : PySem.W.findIn K (.ref CH) "row" = some none)
    (nCH_last_name : PySem.W.findIn K (.ref CH) "last_name" = some none)
    (iFI : PySem.W.isFn K (.ref fFI) = true)
    (lFI : K.lookup fFI = some ⟨ocFI, odFI, .func (PySem.W.fnOf "__init__" "Fault.__init__" (defArgs sFI) (defBody sFI) (defScope sFI) .none kVFI dcFI pmFI anFI cdFI ctFI), slFI⟩)
    (cFI : PySem.W.codeIn K cdFI "Fault.__init__" = true)
    (kFI : PySem.W.keepIn K (.ref fFI) = true)
    (aRI : PySem.W.findIn K (.ref CR) "__init__" = some (some (.ref fRI)))
    (iRI : PySem.W.isFn K (.ref fRI) = true)
    (lRI : K.lookup fRI = some ⟨ocRI, odRI, .func (PySem.W.fnOf "__init__" "Reader.__init__" (defArgs sRI) (defBody sRI) (defScope sRI) .none kVRI dcRI pmRI anRI cdRI ctRI), slRI⟩)
    (cRI : PySem.W.codeIn K cdRI "Reader.__init__" = true)
    (kRI : PySem.W.keepIn K (.ref fRI) = true)
    (aSB : PySem.W.findIn K (.ref CR) "see_byte" = some (some (.ref fSB)))
    (iSB : PySem.W.isFn K (.ref fSB) = true)
    (lSB : K.lookup fSB = some ⟨ocSB, odSB, .func (PySem.W.fnOf "see_byte" "Reader.see_byte" (defArgs sSB) (defBody sSB) (defScope sSB) .none kVSB dcSB pmSB anSB cdSB ctSB), slSB⟩)
    (cSB : PySem.W.codeIn K cdSB "Reader.see_byte" = true)
    (kSB : PySem.W.keepIn K (.ref fSB) = true)
    (aRB : PySem.W.findIn K (.ref CR) "read_byte" = some (some (.ref fRB)))
    (iRB : PySem.W.isFn K (.ref fRB) = true)
    (lRB : K.lookup fRB = some ⟨ocRB, odRB, .func (PySem.W.fnOf "read_byte" "Reader.read_byte" (defArgs sRB) (defBody sRB) (defScope sRB) .none kVRB dcRB pmRB anRB cdRB ctRB), slRB⟩)
    (cRB : PySem.W.codeIn K cdRB "Reader.read_byte" = true)
    (kRB : PySem.W.keepIn K (.ref fRB) = true)
    (aPB : PySem.W.findIn K (.ref CR) "pass_bytes" = some (some (.ref fPB)))
    (iPB : PySem.W.isFn K (.ref fPB) = true)
    (lPB : K.lookup fPB = some ⟨ocPB, odPB, .func (PySem.W.fnOf "pass_bytes" "Reader.pass_bytes" (defArgs sPB) (defBody sPB) (defScope sPB) .none kVPB dcPB pmPB anPB cdPB ctPB), slPB⟩)
    (cPB : PySem.W.codeIn K cdPB "Reader.pass_bytes" = true)
    (kPB : PySem.W.keepIn K (.ref fPB) = true)
    (aSL : PySem.W.nsIn K mainGlobals "scalar_length" = some (some (.ref fSL)))
    (lSL : K.lookup fSL = some ⟨ocSL, odSL, .func (PySem.W.fnOf "scalar_length" "scalar_length" (defArgs sSL) (defBody sSL) (defScope sSL) .none kVSL dcSL pmSL anSL cdSL ctSL), slSL⟩)
    (cSL : PySem.W.codeIn K cdSL "scalar_length" = true)
    (kSL : PySem.W.keepIn K (.ref fSL) = true)
    (aLS : PySem.W.nsIn K mainGlobals "lowest_second" = some (some (.ref fLS)))
    (lLS : K.lookup fLS = some ⟨ocLS, odLS, .func (PySem.W.fnOf "lowest_second" "lowest_second" (defArgs sLS) (defBody sLS) (defScope sLS) .none kVLS dcLS pmLS anLS cdLS ctLS), slLS⟩)
    (cLS : PySem.W.codeIn K cdLS "lowest_second" = true)
    (kLS : PySem.W.keepIn K (.ref fLS) = true)
    (aHS : PySem.W.nsIn K mainGlobals "highest_second" = some (some (.ref fHS)))
    (lHS : K.lookup fHS = some ⟨ocHS, odHS, .func (PySem.W.fnOf "highest_second" "highest_second" (defArgs sHS) (defBody sHS) (defScope sHS) .none kVHS dcHS pmHS anHS cdHS ctHS), slHS⟩)
    (cHS : PySem.W.codeIn K cdHS "highest_second" = true)
    (kHS : PySem.W.keepIn K (.ref fHS) = true)
    (aPS : PySem.W.nsIn K mainGlobals "pass_scalar" = some (some (.ref fPS)))
    (lPS : K.lookup fPS = some ⟨ocPS, odPS, .func (PySem.W.fnOf "pass_scalar" "pass_scalar" (defArgs sPS) (defBody sPS) (defScope sPS) .none kVPS dcPS pmPS anPS cdPS ctPS), slPS⟩)
    (cPS : PySem.W.codeIn K cdPS "pass_scalar" = true)
    (kPS : PySem.W.keepIn K (.ref fPS) = true)
    (aRG : PySem.W.findIn K (.ref CR) "read_sign" = some (some (.ref fRG)))
    (iRG : PySem.W.isFn K (.ref fRG) = true)
    (lRG : K.lookup fRG = some ⟨ocRG, odRG, .func (PySem.W.fnOf "read_sign" "Reader.read_sign" (defArgs sRG) (defBody sRG) (defScope sRG) .none kVRG dcRG pmRG anRG cdRG ctRG), slRG⟩)
    (cRG : PySem.W.codeIn K cdRG "Reader.read_sign" = true)
    (kRG : PySem.W.keepIn K (.ref fRG) = true)
    (aHI : PySem.W.findIn K (.ref CH) "__init__" = some (some (.ref fHI)))
    (iHI : PySem.W.isFn K (.ref fHI) = true)
    (lHI : K.lookup fHI = some ⟨ocHI, odHI, .func (PySem.W.fnOf "__init__" "Holder.__init__" (defArgs sHI) (defBody sHI) (defScope sHI) .none kVHI dcHI pmHI anHI cdHI ctHI), slHI⟩)
    (cHI : PySem.W.codeIn K cdHI "Holder.__init__" = true)
    (kHI : PySem.W.keepIn K (.ref fHI) = true)
    (aSO : PySem.W.nsIn K mainGlobals "signs_of" = some (some (.ref fSO)))
    (lSO : K.lookup fSO = some ⟨ocSO, odSO, .func (PySem.W.fnOf "signs_of" "signs_of" (defArgs sSO) (defBody sSO) (defScope sSO) .none kVSO dcSO pmSO anSO cdSO ctSO), slSO⟩)
    (cSO : PySem.W.codeIn K cdSO "signs_of" = true)
    (kSO : PySem.W.keepIn K (.ref fSO) = true)
    (aXW : PySem.W.nsIn K mainGlobals "read_word" = some (some (.ref fXW)))
    (lXW : K.lookup fXW = some ⟨ocXW, odXW, .func (PySem.W.fnOf "read_word" "read_word" (defArgs sXW) (defBody sXW) (defScope sXW) .none kVXW dcXW pmXW anXW cdXW ctXW), slXW⟩)
    (cXW : PySem.W.codeIn K cdXW "read_word" = true)
    (kXW : PySem.W.keepIn K (.ref fXW) = true)
    (aI1 : PySem.W.nsIn K mainGlobals "is_ten" = some (some (.ref fI1)))
    (lI1 : K.lookup fI1 = some ⟨ocI1, odI1, .func (PySem.W.fnOf "is_ten" "is_ten" (defArgs sI1) (defBody sI1) (defScope sI1) .none kVI1 dcI1 pmI1 anI1 cdI1 ctI1), slI1⟩)
    (cI1 : PySem.W.codeIn K cdI1 "is_ten" = true)
    (kI1 : PySem.W.keepIn K (.ref fI1) = true)
    (aIL : PySem.W.nsIn K mainGlobals "is_small_letter" = some (some (.ref fIL)))
    (lIL : K.lookup fIL = some ⟨ocIL, odIL, .func (PySem.W.fnOf "is_small_letter" "is_small_letter" (defArgs sIL) (defBody sIL) (defScope sIL) .none kVIL dcIL pmIL anIL cdIL ctIL), slIL⟩)
    (cIL : PySem.W.codeIn K cdIL "is_small_letter" = true)
    (kIL : PySem.W.keepIn K (.ref fIL) = true)
    (aIG : PySem.W.nsIn K mainGlobals "is_name_sign" = some (some (.ref fIG)))
    (lIG : K.lookup fIG = some ⟨ocIG, odIG, .func (PySem.W.fnOf "is_name_sign" "is_name_sign" (defArgs sIG) (defBody sIG) (defScope sIG) .none kVIG dcIG pmIG anIG cdIG ctIG), slIG⟩)
    (cIG : PySem.W.codeIn K cdIG "is_name_sign" = true)
    (kIG : PySem.W.keepIn K (.ref fIG) = true)
    (aSI : PySem.W.nsIn K mainGlobals "stands_as_it_is" = some (some (.ref fSI)))
    (lSI : K.lookup fSI = some ⟨ocSI, odSI, .func (PySem.W.fnOf "stands_as_it_is" "stands_as_it_is" (defArgs sSI) (defBody sSI) (defScope sSI) .none kVSI dcSI pmSI anSI cdSI ctSI), slSI⟩)
    (cSI : PySem.W.codeIn K cdSI "stands_as_it_is" = true)
    (kSI : PySem.W.keepIn K (.ref fSI) = true)
    (aIU : PySem.W.nsIn K mainGlobals "is_numbered" = some (some (.ref fIU)))
    (lIU : K.lookup fIU = some ⟨ocIU, odIU, .func (PySem.W.fnOf "is_numbered" "is_numbered" (defArgs sIU) (defBody sIU) (defScope sIU) .none kVIU dcIU pmIU anIU cdIU ctIU), slIU⟩)
    (cIU : PySem.W.codeIn K cdIU "is_numbered" = true)
    (kIU : PySem.W.keepIn K (.ref fIU) = true)
    (aFG : PySem.W.nsIn K mainGlobals "figure_of" = some (some (.ref fFG)))
    (lFG : K.lookup fFG = some ⟨ocFG, odFG, .func (PySem.W.fnOf "figure_of" "figure_of" (defArgs sFG) (defBody sFG) (defScope sFG) .none kVFG dcFG pmFG anFG cdFG ctFG), slFG⟩)
    (cFG : PySem.W.codeIn K cdFG "figure_of" = true)
    (kFG : PySem.W.keepIn K (.ref fFG) = true)
    (aXF : PySem.W.nsIn K mainGlobals "read_figure" = some (some (.ref fXF)))
    (lXF : K.lookup fXF = some ⟨ocXF, odXF, .func (PySem.W.fnOf "read_figure" "read_figure" (defArgs sXF) (defBody sXF) (defScope sXF) .none kVXF dcXF pmXF anXF cdXF ctXF), slXF⟩)
    (cXF : PySem.W.codeIn K cdXF "read_figure" = true)
    (kXF : PySem.W.keepIn K (.ref fXF) = true)
    (aX2 : PySem.W.nsIn K mainGlobals "read_two_figures" = some (some (.ref fX2)))
    (lX2 : K.lookup fX2 = some ⟨ocX2, odX2, .func (PySem.W.fnOf "read_two_figures" "read_two_figures" (defArgs sX2) (defBody sX2) (defScope sX2) .none kVX2 dcX2 pmX2 anX2 cdX2 ctX2), slX2⟩)
    (cX2 : PySem.W.codeIn K cdX2 "read_two_figures" = true)
    (kX2 : PySem.W.keepIn K (.ref fX2) = true)
    (aXI : PySem.W.nsIn K mainGlobals "read_identity" = some (some (.ref fXI)))
    (lXI : K.lookup fXI = some ⟨ocXI, odXI, .func (PySem.W.fnOf "read_identity" "read_identity" (defArgs sXI) (defBody sXI) (defScope sXI) .none kVXI dcXI pmXI anXI cdXI ctXI), slXI⟩)
    (cXI : PySem.W.codeIn K cdXI "read_identity" = true)
    (kXI : PySem.W.keepIn K (.ref fXI) = true)
    (aXG : PySem.W.nsIn K mainGlobals "read_figured" = some (some (.ref fXG)))
    (lXG : K.lookup fXG = some ⟨ocXG, odXG, .func (PySem.W.fnOf "read_figured" "read_figured" (defArgs sXG) (defBody sXG) (defScope sXG) .none kVXG dcXG pmXG anXG cdXG ctXG), slXG⟩)
    (cXG : PySem.W.codeIn K cdXG "read_figured" = true)
    (kXG : PySem.W.keepIn K (.ref fXG) = true)
    (aXO : PySem.W.nsIn K mainGlobals "read_figure_onto" = some (some (.ref fXO)))
    (lXO : K.lookup fXO = some ⟨ocXO, odXO, .func (PySem.W.fnOf "read_figure_onto" "read_figure_onto" (defArgs sXO) (defBody sXO) (defScope sXO) .none kVXO dcXO pmXO anXO cdXO ctXO), slXO⟩)
    (cXO : PySem.W.codeIn K cdXO "read_figure_onto" = true)
    (kXO : PySem.W.keepIn K (.ref fXO) = true)
    (aXD : PySem.W.nsIn K mainGlobals "read_numbered" = some (some (.ref fXD)))
    (lXD : K.lookup fXD = some ⟨ocXD, odXD, .func (PySem.W.fnOf "read_numbered" "read_numbered" (defArgs sXD) (defBody sXD) (defScope sXD) .none kVXD dcXD pmXD anXD cdXD ctXD), slXD⟩)
    (cXD : PySem.W.codeIn K cdXD "read_numbered" = true)
    (kXD : PySem.W.keepIn K (.ref fXD) = true)
    (aXK : PySem.W.nsIn K mainGlobals "read_behind_backslash" = some (some (.ref fXK)))
    (lXK : K.lookup fXK = some ⟨ocXK, odXK, .func (PySem.W.fnOf "read_behind_backslash" "read_behind_backslash" (defArgs sXK) (defBody sXK) (defScope sXK) .none kVXK dcXK pmXK anXK cdXK ctXK), slXK⟩)
    (cXK : PySem.W.codeIn K cdXK "read_behind_backslash" = true)
    (kXK : PySem.W.keepIn K (.ref fXK) = true)
    (aXL : PySem.W.nsIn K mainGlobals "read_scalar" = some (some (.ref fXL)))
    (lXL : K.lookup fXL = some ⟨ocXL, odXL, .func (PySem.W.fnOf "read_scalar" "read_scalar" (defArgs sXL) (defBody sXL) (defScope sXL) .none kVXL dcXL pmXL anXL cdXL ctXL), slXL⟩)
    (cXL : PySem.W.codeIn K cdXL "read_scalar" = true)
    (kXL : PySem.W.keepIn K (.ref fXL) = true)
    (aXQ : PySem.W.nsIn K mainGlobals "read_quoted" = some (some (.ref fXQ)))
    (lXQ : K.lookup fXQ = some ⟨ocXQ, odXQ, .func (PySem.W.fnOf "read_quoted" "read_quoted" (defArgs sXQ) (defBody sXQ) (defScope sXQ) .none kVXQ dcXQ pmXQ anXQ cdXQ ctXQ), slXQ⟩)
    (cXQ : PySem.W.codeIn K cdXQ "read_quoted" = true)
    (kXQ : PySem.W.keepIn K (.ref fXQ) = true)
    (aXP : PySem.W.nsIn K mainGlobals "pass_tens" = some (some (.ref fXP)))
    (lXP : K.lookup fXP = some ⟨ocXP, odXP, .func (PySem.W.fnOf "pass_tens" "pass_tens" (defArgs sXP) (defBody sXP) (defScope sXP) .none kVXP dcXP pmXP anXP cdXP ctXP), slXP⟩)
    (cXP : PySem.W.codeIn K cdXP "pass_tens" = true)
    (kXP : PySem.W.keepIn K (.ref fXP) = true)
    (aXS : PySem.W.nsIn K mainGlobals "read_tens" = some (some (.ref fXS)))
    (lXS : K.lookup fXS = some ⟨ocXS, odXS, .func (PySem.W.fnOf "read_tens" "read_tens" (defArgs sXS) (defBody sXS) (defScope sXS) .none kVXS dcXS pmXS anXS cdXS ctXS), slXS⟩)
    (cXS : PySem.W.codeIn K cdXS "read_tens" = true)
    (kXS : PySem.W.keepIn K (.ref fXS) = true)
    (aVR : PySem.W.nsIn K mainGlobals "vary_row" = some (some (.ref fVR)))
    (lVR : K.lookup fVR = some ⟨ocVR, odVR, .func (PySem.W.fnOf "vary_row" "vary_row" (defArgs sVR) (defBody sVR) (defScope sVR) .none kVVR dcVR pmVR anVR cdVR ctVR), slVR⟩)
    (cVR : PySem.W.codeIn K cdVR "vary_row" = true)
    (kVR : PySem.W.keepIn K (.ref fVR) = true)
    (aAR : PySem.W.nsIn K mainGlobals "amount_row" = some (some (.ref fAR)))
    (lAR : K.lookup fAR = some ⟨ocAR, odAR, .func (PySem.W.fnOf "amount_row" "amount_row" (defArgs sAR) (defBody sAR) (defScope sAR) .none kVAR dcAR pmAR anAR cdAR ctAR), slAR⟩)
    (cAR : PySem.W.codeIn K cdAR "amount_row" = true)
    (kAR : PySem.W.keepIn K (.ref fAR) = true)
    (aNR : PySem.W.nsIn K mainGlobals "number_row" = some (some (.ref fNR)))
    (lNR : K.lookup fNR = some ⟨ocNR, odNR, .func (PySem.W.fnOf "number_row" "number_row" (defArgs sNR) (defBody sNR) (defScope sNR) .none kVNR dcNR pmNR anNR cdNR ctNR), slNR⟩)
    (cNR : PySem.W.codeIn K cdNR "number_row" = true)
    (kNR : PySem.W.keepIn K (.ref fNR) = true)
    (aIR : PySem.W.nsIn K mainGlobals "is_in_range" = some (some (.ref fIR)))
    (lIR : K.lookup fIR = some ⟨ocIR, odIR, .func (PySem.W.fnOf "is_in_range" "is_in_range" (defArgs sIR) (defBody sIR) (defScope sIR) .none kVIR dcIR pmIR anIR cdIR ctIR), slIR⟩)
    (cIR : PySem.W.codeIn K cdIR "is_in_range" = true)
    (kIR : PySem.W.keepIn K (.ref fIR) = true)
    (aKR : PySem.W.nsIn K mainGlobals "counted_row" = some (some (.ref fKR)))
    (lKR : K.lookup fKR = some ⟨ocKR, odKR, .func (PySem.W.fnOf "counted_row" "counted_row" (defArgs sKR) (defBody sKR) (defScope sKR) .none kVKR dcKR pmKR anKR cdKR ctKR), slKR⟩)
    (cKR : PySem.W.codeIn K cdKR "counted_row" = true)
    (kKR : PySem.W.keepIn K (.ref fKR) = true)
    (aXU : PySem.W.nsIn K mainGlobals "read_number" = some (some (.ref fXU)))
    (lXU : K.lookup fXU = some ⟨ocXU, odXU, .func (PySem.W.fnOf "read_number" "read_number" (defArgs sXU) (defBody sXU) (defScope sXU) .none kVXU dcXU pmXU anXU cdXU ctXU), slXU⟩)
    (cXU : PySem.W.codeIn K cdXU "read_number" = true)
    (kXU : PySem.W.keepIn K (.ref fXU) = true)
    (aMR : PySem.W.nsIn K mainGlobals "moment_row" = some (some (.ref fMR)))
    (lMR : K.lookup fMR = some ⟨ocMR, odMR, .func (PySem.W.fnOf "moment_row" "moment_row" (defArgs sMR) (defBody sMR) (defScope sMR) .none kVMR dcMR pmMR anMR cdMR ctMR), slMR⟩)
    (cMR : PySem.W.codeIn K cdMR "moment_row" = true)
    (kMR : PySem.W.keepIn K (.ref fMR) = true)
    (aXM : PySem.W.nsIn K mainGlobals "read_moment" = some (some (.ref fXM)))
    (lXM : K.lookup fXM = some ⟨ocXM, odXM, .func (PySem.W.fnOf "read_moment" "read_moment" (defArgs sXM) (defBody sXM) (defScope sXM) .none kVXM dcXM pmXM anXM cdXM ctXM), slXM⟩)
    (cXM : PySem.W.codeIn K cdXM "read_moment" = true)
    (kXM : PySem.W.keepIn K (.ref fXM) = true)
    (aX0 : PySem.W.nsIn K mainGlobals "begins_atom" = some (some (.ref fX0)))
    (lX0 : K.lookup fX0 = some ⟨ocX0, odX0, .func (PySem.W.fnOf "begins_atom" "begins_atom" (defArgs sX0) (defBody sX0) (defScope sX0) .none kVX0 dcX0 pmX0 anX0 cdX0 ctX0), slX0⟩)
    (cX0 : PySem.W.codeIn K cdX0 "begins_atom" = true)
    (kX0 : PySem.W.keepIn K (.ref fX0) = true)
    (aXA : PySem.W.nsIn K mainGlobals "read_atom" = some (some (.ref fXA)))
    (lXA : K.lookup fXA = some ⟨ocXA, odXA, .func (PySem.W.fnOf "read_atom" "read_atom" (defArgs sXA) (defBody sXA) (defScope sXA) .none kVXA dcXA pmXA anXA cdXA ctXA), slXA⟩)
    (cXA : PySem.W.codeIn K cdXA "read_atom" = true)
    (kXA : PySem.W.keepIn K (.ref fXA) = true)
    (aXC : PySem.W.nsIn K mainGlobals "closing_sign" = some (some (.ref fXC)))
    (lXC : K.lookup fXC = some ⟨ocXC, odXC, .func (PySem.W.fnOf "closing_sign" "closing_sign" (defArgs sXC) (defBody sXC) (defScope sXC) .none kVXC dcXC pmXC anXC cdXC ctXC), slXC⟩)
    (cXC : PySem.W.codeIn K cdXC "closing_sign" = true)
    (kXC : PySem.W.keepIn K (.ref fXC) = true)
    (aXH : PySem.W.nsIn K mainGlobals "end_holder" = some (some (.ref fXH)))
    (lXH : K.lookup fXH = some ⟨ocXH, odXH, .func (PySem.W.fnOf "end_holder" "end_holder" (defArgs sXH) (defBody sXH) (defScope sXH) .none kVXH dcXH pmXH anXH cdXH ctXH), slXH⟩)
    (cXH : PySem.W.codeIn K cdXH "end_holder" = true)
    (kXH : PySem.W.keepIn K (.ref fXH) = true)
    (aXN : PySem.W.nsIn K mainGlobals "read_bare_name" = some (some (.ref fXN)))
    (lXN : K.lookup fXN = some ⟨ocXN, odXN, .func (PySem.W.fnOf "read_bare_name" "read_bare_name" (defArgs sXN) (defBody sXN) (defScope sXN) .none kVXN dcXN pmXN anXN cdXN ctXN), slXN⟩)
    (cXN : PySem.W.codeIn K cdXN "read_bare_name" = true)
    (kXN : PySem.W.keepIn K (.ref fXN) = true)
    (aRN : PySem.W.nsIn K mainGlobals "read_name" = some (some (.ref fRN)))
    (lRN : K.lookup fRN = some ⟨ocRN, odRN, .func (PySem.W.fnOf "read_name" "read_name" (defArgs sRN) (defBody sRN) (defScope sRN) .none kVRN dcRN pmRN anRN cdRN ctRN), slRN⟩)
    (cRN : PySem.W.codeIn K cdRN "read_name" = true)
    (kRN : PySem.W.keepIn K (.ref fRN) = true)
    (aBM : PySem.W.nsIn K mainGlobals "begin_member" = some (some (.ref fBM)))
    (lBM : K.lookup fBM = some ⟨ocBM, odBM, .func (PySem.W.fnOf "begin_member" "begin_member" (defArgs sBM) (defBody sBM) (defScope sBM) .none kVBM dcBM pmBM anBM cdBM ctBM), slBM⟩)
    (cBM : PySem.W.codeIn K cdBM "begin_member" = true)
    (kBM : PySem.W.keepIn K (.ref fBM) = true)
    (aXB : PySem.W.nsIn K mainGlobals "begin_value" = some (some (.ref fXB)))
    (lXB : K.lookup fXB = some ⟨ocXB, odXB, .func (PySem.W.fnOf "begin_value" "begin_value" (defArgs sXB) (defBody sXB) (defScope sXB) .none kVXB dcXB pmXB anXB cdXB ctXB), slXB⟩)
    (cXB : PySem.W.codeIn K cdXB "begin_value" = true)
    (kXB : PySem.W.keepIn K (.ref fXB) = true)
    (aXE : PySem.W.nsIn K mainGlobals "end_member" = some (some (.ref fXE)))
    (lXE : K.lookup fXE = some ⟨ocXE, odXE, .func (PySem.W.fnOf "end_member" "end_member" (defArgs sXE) (defBody sXE) (defScope sXE) .none kVXE dcXE pmXE anXE cdXE ctXE), slXE⟩)
    (cXE : PySem.W.codeIn K cdXE "end_member" = true)
    (kXE : PySem.W.keepIn K (.ref fXE) = true)
    (aXT : PySem.W.nsIn K mainGlobals "read_text" = some (some (.ref fXT)))
    (lXT : K.lookup fXT = some ⟨ocXT, odXT, .func (PySem.W.fnOf "read_text" "read_text" (defArgs sXT) (defBody sXT) (defScope sXT) .none kVXT dcXT pmXT anXT cdXT ctXT), slXT⟩)
    (cXT : PySem.W.codeIn K cdXT "read_text" = true)
    (kXT : PySem.W.keepIn K (.ref fXT) = true)
    (aEN : PySem.W.nsIn K mainGlobals "read" = some (some (.ref fEN)))
    (lEN : K.lookup fEN = some ⟨ocEN, odEN, .func (PySem.W.fnOf "read" "read" (defArgs sRD) (defBody sRD) (defScope sRD) .none kVEN dcEN pmEN anEN cdEN ctEN), slEN⟩)
    (cEN : PySem.W.codeIn K cdEN "read" = true)
    (kEN : PySem.W.keepIn K (.ref fEN) = true)
    (gENDS_TOO_SOON : PySem.W.nsIn K mainGlobals "ENDS_TOO_SOON" = some (some (.int (1) tENDS_TOO_SOON)))
    (gWRONG_SIGN : PySem.W.nsIn K mainGlobals "WRONG_SIGN" = some (some (.int (2) tWRONG_SIGN)))
    (gLOWEST_FURTHER : PySem.W.nsIn K mainGlobals "LOWEST_FURTHER" = some (some (.int (128) tLOWEST_FURTHER)))
    (gHIGHEST_FURTHER : PySem.W.nsIn K mainGlobals "HIGHEST_FURTHER" = some (some (.int (191) tHIGHEST_FURTHER)))
    (gWRONG_UTF8 : PySem.W.nsIn K mainGlobals "WRONG_UTF8" = some (some (.int (5) tWRONG_UTF8)))
    (gLONGEST_NUMBER : PySem.W.nsIn K mainGlobals "LONGEST_NUMBER" = some (some (.int (4096) tLONGEST_NUMBER)))
    (gTEXT : PySem.W.nsIn K mainGlobals "TEXT" = some (some (.int (4) tTEXT)))
    (gLONGEST_NAME : PySem.W.nsIn K mainGlobals "LONGEST_NAME" = some (some (.int (255) tLONGEST_NAME)))
    (gWRONG_NAME : PySem.W.nsIn K mainGlobals "WRONG_NAME" = some (some (.int (6) tWRONG_NAME)))
    (gNUMBER : PySem.W.nsIn K mainGlobals "NUMBER" = some (some (.int (2) tNUMBER)))
    (gBYTES : PySem.W.nsIn K mainGlobals "BYTES" = some (some (.int (3) tBYTES)))
    (gLIST : PySem.W.nsIn K mainGlobals "LIST" = some (some (.int (5) tLIST)))
    (gRECORD : PySem.W.nsIn K mainGlobals "RECORD" = some (some (.int (6) tRECORD)))
    (gMOMENT : PySem.W.nsIn K mainGlobals "MOMENT" = some (some (.int (7) tMOMENT)))
    (gIDENTITY : PySem.W.nsIn K mainGlobals "IDENTITY" = some (some (.int (8) tIDENTITY)))
    (gDEEPEST : PySem.W.nsIn K mainGlobals "DEEPEST" = some (some (.int (64) tDEEPEST)))
    (gMOMENT_LENGTH : PySem.W.nsIn K mainGlobals "MOMENT_LENGTH" = some (some (.int (8) tMOMENT_LENGTH)))
    (gIDENTITY_LENGTH : PySem.W.nsIn K mainGlobals "IDENTITY_LENGTH" = some (some (.int (32) tIDENTITY_LENGTH)))
    (gTOO_DEEP : PySem.W.nsIn K mainGlobals "TOO_DEEP" = some (some (.int (7) tTOO_DEEP)))
    (gBYTES_BEHIND : PySem.W.nsIn K mainGlobals "BYTES_BEHIND" = some (some (.int (8) tBYTES_BEHIND)))
    (gOUT_OF_RANGE : PySem.W.nsIn K mainGlobals "OUT_OF_RANGE" = some (some (.int (4) tOUT_OF_RANGE)))
    (gTOO_LONG : PySem.W.nsIn K mainGlobals "TOO_LONG" = some (some (.int (9) tTOO_LONG)))
    (gLONGEST_VALUE : PySem.W.nsIn K mainGlobals "LONGEST_VALUE" = some (some (.int (16777216) tLONGEST_VALUE)))
    (gNO : PySem.W.nsIn K mainGlobals "NO" = some (some (.int (0) tNO)))
    (gYES : PySem.W.nsIn K mainGlobals "YES" = some (some (.int (1) tYES)))
    (gLINE_FEED : PySem.W.nsIn K mainGlobals "LINE_FEED" = some (some (.int (10) tLINE_FEED)))
    (gBLANK : PySem.W.nsIn K mainGlobals "BLANK" = some (some (.int (32) tBLANK)))
    (gQUOTE : PySem.W.nsIn K mainGlobals "QUOTE" = some (some (.int (34) tQUOTE)))
    (gID_SIGN : PySem.W.nsIn K mainGlobals "ID_SIGN" = some (some (.int (35) tID_SIGN)))
    (gCOMMA : PySem.W.nsIn K mainGlobals "COMMA" = some (some (.int (44) tCOMMA)))
    (gMINUS : PySem.W.nsIn K mainGlobals "MINUS" = some (some (.int (45) tMINUS)))
    (gNOUGHT : PySem.W.nsIn K mainGlobals "NOUGHT" = some (some (.int (48) tNOUGHT)))
    (gCOLON : PySem.W.nsIn K mainGlobals "COLON" = some (some (.int (58) tCOLON)))
    (gMOMENT_SIGN : PySem.W.nsIn K mainGlobals "MOMENT_SIGN" = some (some (.int (64) tMOMENT_SIGN)))
    (gLIST_OPEN : PySem.W.nsIn K mainGlobals "LIST_OPEN" = some (some (.int (91) tLIST_OPEN)))
    (gBACKSLASH : PySem.W.nsIn K mainGlobals "BACKSLASH" = some (some (.int (92) tBACKSLASH)))
    (gLIST_CLOSE : PySem.W.nsIn K mainGlobals "LIST_CLOSE" = some (some (.int (93) tLIST_CLOSE)))
    (gUNDERLINE : PySem.W.nsIn K mainGlobals "UNDERLINE" = some (some (.int (95) tUNDERLINE)))
    (gSMALL_N : PySem.W.nsIn K mainGlobals "SMALL_N" = some (some (.int (110) tSMALL_N)))
    (gSMALL_U : PySem.W.nsIn K mainGlobals "SMALL_U" = some (some (.int (117) tSMALL_U)))
    (gSMALL_X : PySem.W.nsIn K mainGlobals "SMALL_X" = some (some (.int (120) tSMALL_X)))
    (gSMALL_Y : PySem.W.nsIn K mainGlobals "SMALL_Y" = some (some (.int (121) tSMALL_Y)))
    (gRECORD_OPEN : PySem.W.nsIn K mainGlobals "RECORD_OPEN" = some (some (.int (123) tRECORD_OPEN)))
    (gRECORD_CLOSE : PySem.W.nsIn K mainGlobals "RECORD_CLOSE" = some (some (.int (125) tRECORD_CLOSE)))
    (gDELETE : PySem.W.nsIn K mainGlobals "DELETE" = some (some (.int (127) tDELETE)))
    (gMOST_FIGURES : PySem.W.nsIn K mainGlobals "MOST_FIGURES" = some (some (.int (9865) tMOST_FIGURES)))
    (zlen : PySem.W.nsIn K mainGlobals "len" = some none)
    (zrange : PySem.W.nsIn K mainGlobals "range" = some none)
    (zmin : PySem.W.nsIn K mainGlobals "min" = some none)
    (zabs : PySem.W.nsIn K mainGlobals "abs" = some none)
    (zord : PySem.W.nsIn K mainGlobals "ord" = some none)
    (zall : PySem.W.nsIn K mainGlobals "all" = some none)
    : ∃ fd : FuncData, (∀ (s : Shared) (us : List Value), us.length = (["t"] : List Str).length → BindsTo s fd ⟨us, []⟩ ((["t"] : List Str).zip us)) ∧ ∀ base : Heap, K.In base → base.Ns mainGlobals mg → FnOk P w K mg base CX0 13 fa fd ["t"] (spRD K) := by
  have e := hfa.symm.trans (PySem.W.mg_of X G aEN)
  cases e
  have xc : XCls K CF fFI := ⟨⟨nm, q, N, bs, sn, sub, ab, col, dd, k0, k1, k2, k3, k5, oN, lCF, lN, okN, xI, xS, xG, xH, xK, xP⟩, iFI, kCF⟩
  have T : TxR K mg CF CR fFI := ⟨xc, ⟨pgCR, hdCR, poCR, saCR⟩, nCR_row, nCR_place, PySem.W.mg_of X G aCF, (PySem.W.ns_none_of X G zlen), (PySem.W.ns_none_of X G zrange), ⟨tENDS_TOO_SOON, PySem.W.mg_of X G gENDS_TOO_SOON⟩, ⟨tWRONG_SIGN, PySem.W.mg_of X G gWRONG_SIGN⟩⟩
  have U : TxU mg := ⟨⟨tLOWEST_FURTHER, PySem.W.mg_of X G gLOWEST_FURTHER⟩, ⟨tHIGHEST_FURTHER, PySem.W.mg_of X G gHIGHEST_FURTHER⟩, ⟨tWRONG_UTF8, PySem.W.mg_of X G gWRONG_UTF8⟩, (PySem.W.ns_none_of X G zmin)⟩
  have TS : TxS mg := ⟨(PySem.W.ns_none_of X G zlen), (PySem.W.ns_none_of X G zord), (PySem.W.ns_none_of X G zall), ⟨tQUOTE, PySem.W.mg_of X G gQUOTE⟩, ⟨tBACKSLASH, PySem.W.mg_of X G gBACKSLASH⟩, ⟨tLINE_FEED, PySem.W.mg_of X G gLINE_FEED⟩, ⟨tSMALL_N, PySem.W.mg_of X G gSMALL_N⟩, ⟨tRECORD_CLOSE, PySem.W.mg_of X G gRECORD_CLOSE⟩, ⟨tUNDERLINE, PySem.W.mg_of X G gUNDERLINE⟩, ⟨tBLANK, PySem.W.mg_of X G gBLANK⟩, ⟨tDELETE, PySem.W.mg_of X G gDELETE⟩⟩
  have TH : TxH K mg CH := ⟨⟨pgCH, hdCH, poCH, saCH⟩, nCH_kind, nCH_size, nCH_row, nCH_last_name, PySem.W.mg_of X G aCH, ⟨tLIST, PySem.W.mg_of X G gLIST⟩, ⟨tRECORD, PySem.W.mg_of X G gRECORD⟩, ⟨tLIST_CLOSE, PySem.W.mg_of X G gLIST_CLOSE⟩, ⟨tRECORD_CLOSE, PySem.W.mg_of X G gRECORD_CLOSE⟩, ⟨tLONGEST_NAME, PySem.W.mg_of X G gLONGEST_NAME⟩, ⟨tWRONG_NAME, PySem.W.mg_of X G gWRONG_NAME⟩⟩
  have FFI := fun_mk (st := sFI) lFI cFI kFI
  have bFI := FFI.binds (ps := ["self", "kind", "place"]) fun _ _ _ _ _ _ us hl => by obtain ⟨_, _, _, rfl⟩ := L2.J.ln3 hl; rfl
  have FRI := fun_mk (st := sRI) lRI cRI kRI
  have bRI := FRI.binds (ps := ["self", "row"]) fun _ _ _ _ _ _ us hl => by obtain ⟨_, _, rfl⟩ := L2.J.ln2 hl; rfl
  have FSB := fun_mk (st := sSB) lSB cSB kSB
  have bSB := FSB.binds (ps := ["self"]) fun _ _ _ _ _ _ us hl => by obtain ⟨_, rfl⟩ := L2.J.ln1 hl; rfl
  have FRB := fun_mk (st := sRB) lRB cRB kRB
  have bRB := FRB.binds (ps := ["self"]) fun _ _ _ _ _ _ us hl => by obtain ⟨_, rfl⟩ := L2.J.ln1 hl; rfl
  have FPB := fun_mk (st := sPB) lPB cPB kPB
  have bPB := FPB.binds (ps := ["self", "how_many"]) fun _ _ _ _ _ _ us hl => by obtain ⟨_, _, rfl⟩ := L2.J.ln2 hl; rfl
  have FSL := fun_mk (st := sSL) lSL cSL kSL
  have bSL := FSL.binds (ps := ["first"]) fun _ _ _ _ _ _ us hl => by obtain ⟨_, rfl⟩ := L2.J.ln1 hl; rfl
  have mSL := PySem.W.mg_of X G aSL
  have FLS := fun_mk (st := sLS) lLS cLS kLS
  have bLS := FLS.binds (ps := ["first"]) fun _ _ _ _ _ _ us hl => by obtain ⟨_, rfl⟩ := L2.J.ln1 hl; rfl
  have mLS := PySem.W.mg_of X G aLS
  have FHS := fun_mk (st := sHS) lHS cHS kHS
  have bHS := FHS.binds (ps := ["first"]) fun _ _ _ _ _ _ us hl => by obtain ⟨_, rfl⟩ := L2.J.ln1 hl; rfl
  have mHS := PySem.W.mg_of X G aHS
  have FPS := fun_mk (st := sPS) lPS cPS kPS
  have bPS := FPS.binds (ps := ["row", "place", "end"]) fun _ _ _ _ _ _ us hl => by obtain ⟨_, _, _, rfl⟩ := L2.J.ln3 hl; rfl
  have mPS := PySem.W.mg_of X G aPS
  have FRG := fun_mk (st := sRG) lRG cRG kRG
  have bRG := FRG.binds (ps := ["self", "sign"]) fun _ _ _ _ _ _ us hl => by obtain ⟨_, _, rfl⟩ := L2.J.ln2 hl; rfl
  have FHI := fun_mk (st := sHI) lHI cHI kHI
  have bHI := FHI.binds (ps := ["self", "kind"]) fun _ _ _ _ _ _ us hl => by obtain ⟨_, _, rfl⟩ := L2.J.ln2 hl; rfl
  have FSO := fun_mk (st := sSO) lSO cSO kSO
  have bSO := FSO.binds (ps := ["words"]) fun _ _ _ _ _ _ us hl => by obtain ⟨_, rfl⟩ := L2.J.ln1 hl; rfl
  have mSO := PySem.W.mg_of X G aSO
  have FXW := fun_mk (st := sXW) lXW cXW kXW
  have bXW := FXW.binds (ps := ["reader", "words"]) fun _ _ _ _ _ _ us hl => by obtain ⟨_, _, rfl⟩ := L2.J.ln2 hl; rfl
  have mXW := PySem.W.mg_of X G aXW
  have FI1 := fun_mk (st := sI1) lI1 cI1 kI1
  have bI1 := FI1.binds (ps := ["byte"]) fun _ _ _ _ _ _ us hl => by obtain ⟨_, rfl⟩ := L2.J.ln1 hl; rfl
  have mI1 := PySem.W.mg_of X G aI1
  have FIL := fun_mk (st := sIL) lIL cIL kIL
  have bIL := FIL.binds (ps := ["byte"]) fun _ _ _ _ _ _ us hl => by obtain ⟨_, rfl⟩ := L2.J.ln1 hl; rfl
  have mIL := PySem.W.mg_of X G aIL
  have FIG := fun_mk (st := sIG) lIG cIG kIG
  have bIG := FIG.binds (ps := ["byte"]) fun _ _ _ _ _ _ us hl => by obtain ⟨_, rfl⟩ := L2.J.ln1 hl; rfl
  have mIG := PySem.W.mg_of X G aIG
  have FSI := fun_mk (st := sSI) lSI cSI kSI
  have bSI := FSI.binds (ps := ["name"]) fun _ _ _ _ _ _ us hl => by obtain ⟨_, rfl⟩ := L2.J.ln1 hl; rfl
  have mSI := PySem.W.mg_of X G aSI
  have FIU := fun_mk (st := sIU) lIU cIU kIU
  have bIU := FIU.binds (ps := ["scalar"]) fun _ _ _ _ _ _ us hl => by obtain ⟨_, rfl⟩ := L2.J.ln1 hl; rfl
  have mIU := PySem.W.mg_of X G aIU
  have FFG := fun_mk (st := sFG) lFG cFG kFG
  have bFG := FFG.binds (ps := ["byte"]) fun _ _ _ _ _ _ us hl => by obtain ⟨_, rfl⟩ := L2.J.ln1 hl; rfl
  have mFG := PySem.W.mg_of X G aFG
  have FXF := fun_mk (st := sXF) lXF cXF kXF
  have bXF := FXF.binds (ps := ["reader"]) fun _ _ _ _ _ _ us hl => by obtain ⟨_, rfl⟩ := L2.J.ln1 hl; rfl
  have mXF := PySem.W.mg_of X G aXF
  have FX2 := fun_mk (st := sX2) lX2 cX2 kX2
  have bX2 := FX2.binds (ps := ["reader"]) fun _ _ _ _ _ _ us hl => by obtain ⟨_, rfl⟩ := L2.J.ln1 hl; rfl
  have mX2 := PySem.W.mg_of X G aX2
  have FXI := fun_mk (st := sXI) lXI cXI kXI
  have bXI := FXI.binds (ps := ["reader"]) fun _ _ _ _ _ _ us hl => by obtain ⟨_, rfl⟩ := L2.J.ln1 hl; rfl
  have mXI := PySem.W.mg_of X G aXI
  have FXG := fun_mk (st := sXG) lXG cXG kXG
  have bXG := FXG.binds (ps := ["reader"]) fun _ _ _ _ _ _ us hl => by obtain ⟨_, rfl⟩ := L2.J.ln1 hl; rfl
  have mXG := PySem.W.mg_of X G aXG
  have FXO := fun_mk (st := sXO) lXO cXO kXO
  have bXO := FXO.binds (ps := ["reader", "scalar"]) fun _ _ _ _ _ _ us hl => by obtain ⟨_, _, rfl⟩ := L2.J.ln2 hl; rfl
  have mXO := PySem.W.mg_of X G aXO
  have FXD := fun_mk (st := sXD) lXD cXD kXD
  have bXD := FXD.binds (ps := ["reader"]) fun _ _ _ _ _ _ us hl => by obtain ⟨_, rfl⟩ := L2.J.ln1 hl; rfl
  have mXD := PySem.W.mg_of X G aXD
  have FXK := fun_mk (st := sXK) lXK cXK kXK
  have bXK := FXK.binds (ps := ["reader"]) fun _ _ _ _ _ _ us hl => by obtain ⟨_, rfl⟩ := L2.J.ln1 hl; rfl
  have mXK := PySem.W.mg_of X G aXK
  have FXL := fun_mk (st := sXL) lXL cXL kXL
  have bXL := FXL.binds (ps := ["reader"]) fun _ _ _ _ _ _ us hl => by obtain ⟨_, rfl⟩ := L2.J.ln1 hl; rfl
  have mXL := PySem.W.mg_of X G aXL
  have FXQ := fun_mk (st := sXQ) lXQ cXQ kXQ
  have bXQ := FXQ.binds (ps := ["reader"]) fun _ _ _ _ _ _ us hl => by obtain ⟨_, rfl⟩ := L2.J.ln1 hl; rfl
  have mXQ := PySem.W.mg_of X G aXQ
  have FXP := fun_mk (st := sXP) lXP cXP kXP
  have bXP := FXP.binds (ps := ["reader", "below_0"]) fun _ _ _ _ _ _ us hl => by obtain ⟨_, _, rfl⟩ := L2.J.ln2 hl; rfl
  have mXP := PySem.W.mg_of X G aXP
  have FXS := fun_mk (st := sXS) lXS cXS kXS
  have bXS := FXS.binds (ps := ["reader", "start"]) fun _ _ _ _ _ _ us hl => by obtain ⟨_, _, rfl⟩ := L2.J.ln2 hl; rfl
  have mXS := PySem.W.mg_of X G aXS
  have FVR := fun_mk (st := sVR) lVR cVR kVR
  have bVR := FVR.binds (ps := ["amount"]) fun _ _ _ _ _ _ us hl => by obtain ⟨_, rfl⟩ := L2.J.ln1 hl; rfl
  have mVR := PySem.W.mg_of X G aVR
  have FAR := fun_mk (st := sAR) lAR cAR kAR
  have bAR := FAR.binds (ps := ["amount"]) fun _ _ _ _ _ _ us hl => by obtain ⟨_, rfl⟩ := L2.J.ln1 hl; rfl
  have mAR := PySem.W.mg_of X G aAR
  have FNR := fun_mk (st := sNR) lNR cNR kNR
  have bNR := FNR.binds (ps := ["number"]) fun _ _ _ _ _ _ us hl => by obtain ⟨_, rfl⟩ := L2.J.ln1 hl; rfl
  have mNR := PySem.W.mg_of X G aNR
  have FIR := fun_mk (st := sIR) lIR cIR kIR
  have bIR := FIR.binds (ps := ["number"]) fun _ _ _ _ _ _ us hl => by obtain ⟨_, rfl⟩ := L2.J.ln1 hl; rfl
  have mIR := PySem.W.mg_of X G aIR
  have FKR := fun_mk (st := sKR) lKR cKR kKR
  have bKR := FKR.binds (ps := ["kind", "how_many", "inner"]) fun _ _ _ _ _ _ us hl => by obtain ⟨_, _, _, rfl⟩ := L2.J.ln3 hl; rfl
  have mKR := PySem.W.mg_of X G aKR
  have FXU := fun_mk (st := sXU) lXU cXU kXU
  have bXU := FXU.binds (ps := ["reader"]) fun _ _ _ _ _ _ us hl => by obtain ⟨_, rfl⟩ := L2.J.ln1 hl; rfl
  have mXU := PySem.W.mg_of X G aXU
  have FMR := fun_mk (st := sMR) lMR cMR kMR
  have bMR := FMR.binds (ps := ["number"]) fun _ _ _ _ _ _ us hl => by obtain ⟨_, rfl⟩ := L2.J.ln1 hl; rfl
  have mMR := PySem.W.mg_of X G aMR
  have FXM := fun_mk (st := sXM) lXM cXM kXM
  have bXM := FXM.binds (ps := ["reader"]) fun _ _ _ _ _ _ us hl => by obtain ⟨_, rfl⟩ := L2.J.ln1 hl; rfl
  have mXM := PySem.W.mg_of X G aXM
  have FX0 := fun_mk (st := sX0) lX0 cX0 kX0
  have bX0 := FX0.binds (ps := ["byte"]) fun _ _ _ _ _ _ us hl => by obtain ⟨_, rfl⟩ := L2.J.ln1 hl; rfl
  have mX0 := PySem.W.mg_of X G aX0
  have FXA := fun_mk (st := sXA) lXA cXA kXA
  have bXA := FXA.binds (ps := ["reader"]) fun _ _ _ _ _ _ us hl => by obtain ⟨_, rfl⟩ := L2.J.ln1 hl; rfl
  have mXA := PySem.W.mg_of X G aXA
  have FXC := fun_mk (st := sXC) lXC cXC kXC
  have bXC := FXC.binds (ps := ["holder"]) fun _ _ _ _ _ _ us hl => by obtain ⟨_, rfl⟩ := L2.J.ln1 hl; rfl
  have mXC := PySem.W.mg_of X G aXC
  have FXH := fun_mk (st := sXH) lXH cXH kXH
  have bXH := FXH.binds (ps := ["reader", "holder"]) fun _ _ _ _ _ _ us hl => by obtain ⟨_, _, rfl⟩ := L2.J.ln2 hl; rfl
  have mXH := PySem.W.mg_of X G aXH
  have FXN := fun_mk (st := sXN) lXN cXN kXN
  have bXN := FXN.binds (ps := ["reader"]) fun _ _ _ _ _ _ us hl => by obtain ⟨_, rfl⟩ := L2.J.ln1 hl; rfl
  have mXN := PySem.W.mg_of X G aXN
  have FRN := fun_mk (st := sRN) lRN cRN kRN
  have bRN := FRN.binds (ps := ["reader", "holder"]) fun _ _ _ _ _ _ us hl => by obtain ⟨_, _, rfl⟩ := L2.J.ln2 hl; rfl
  have mRN := PySem.W.mg_of X G aRN
  have FBM := fun_mk (st := sBM) lBM cBM kBM
  have bBM := FBM.binds (ps := ["reader", "holder"]) fun _ _ _ _ _ _ us hl => by obtain ⟨_, _, rfl⟩ := L2.J.ln2 hl; rfl
  have mBM := PySem.W.mg_of X G aBM
  have FXB := fun_mk (st := sXB) lXB cXB kXB
  have bXB := FXB.binds (ps := ["reader", "begun"]) fun _ _ _ _ _ _ us hl => by obtain ⟨_, _, rfl⟩ := L2.J.ln2 hl; rfl
  have mXB := PySem.W.mg_of X G aXB
  have FXE := fun_mk (st := sXE) lXE cXE kXE
  have bXE := FXE.binds (ps := ["reader", "begun", "value"]) fun _ _ _ _ _ _ us hl => by obtain ⟨_, _, _, rfl⟩ := L2.J.ln3 hl; rfl
  have mXE := PySem.W.mg_of X G aXE
  have FXT := fun_mk (st := sXT) lXT cXT kXT
  have bXT := FXT.binds (ps := ["row"]) fun _ _ _ _ _ _ us hl => by obtain ⟨_, rfl⟩ := L2.J.ln1 hl; rfl
  have mXT := PySem.W.mg_of X G aXT
  have FEN := fun_mk (st := sRD) lEN cEN kEN
  have mEN := PySem.W.mg_of X G aEN
  refine ⟨PySem.W.fnOf "read" "read" (defArgs sRD) (defBody sRD) (defScope sRD) .none kVEN dcEN pmEN anEN cdEN ctEN, fun s us hu => match us, hu with | [_], _ => .of_eq rfl, fun base _ _ => ?_⟩
  have GFI : FnOk P w K mg base CX0 1 fFI _ ["self", "kind", "place"] (spXI CF) := ok_FI FFI T
  have GSB : FnOk P w K mg base (CXF P w) 3 fSB _ ["self"] (spSB K CF CR) := ok_SB FSB T FFI bFI
  have GRB : FnOk P w K mg base (CXF P w) 4 fRB _ ["self"] (spRB K CF CR) := ok_RB FRB T GSB bSB ⟨aSB, iSB, kSB⟩
  have GPB : FnOk P w K mg base (CXF P w) 3 fPB _ ["self", "how_many"] (spPB K CF CR) := ok_PB FPB T FFI bFI
  have GRI : FnOk P w K mg base CX0 1 fRI _ ["self", "row"] (spRI CR) := ok_RI FRI T
  have GPS : FnOk P w K mg base (CXF P w) 3 fPS _ ["row", "place", "end"] (spPS K CF) := ok_PS FPS T U FFI bFI FSL bSL mSL FLS bLS mLS FHS bHS mHS
  have GRG : FnOk P w K mg base (CXF P w) 4 fRG _ ["self", "sign"] (spRG K CF CR) := ok_RG FRG T FFI bFI GSB bSB ⟨aSB, iSB, kSB⟩
  have GSO : FnOk P w K mg base CX0 1 fSO _ ["words"] (spSO) := ok_SO FSO TS
  have GXW : FnOk P w K mg base (CXF P w) 5 fXW _ ["reader", "words"] (spXW K CF CR) := ok_XW FXW T GRG bRG ⟨aRG, iRG, kRG⟩ GSO bSO kSO mSO
  have GI1 : FnOk P w K mg base CX0 1 fI1 _ ["byte"] (spB1 Sw.isDigit) := ok_I1 FI1
  have GIL : FnOk P w K mg base CX0 1 fIL _ ["byte"] (spB1 Sw.isSmall) := ok_IL FIL
  have GIG : FnOk P w K mg base CX0 2 fIG _ ["byte"] (spB1 Sw.inName) := ok_IG FIG TS GIL bIL kIL mIL GI1 bI1 kI1 mI1
  have GSI : FnOk P w K mg base CX0 3 fSI _ ["name"] (spSI K) := ok_SI FSI TS GIL bIL kIL mIL GIG bIG kIG mIG
  have GIU : FnOk P w K mg base CX0 1 fIU _ ["scalar"] (spNN) := ok_IN2 FIU TS
  have GFG : FnOk P w K mg base CX0 1 fFG _ ["byte"] (spFG) := ok_FG FFG
  have GXF : FnOk P w K mg base (CXF P w) 4 fXF _ ["reader"] (spR1 K CF CR figAt) := ok_XF FXF T FFI bFI GSB bSB ⟨aSB, iSB, kSB⟩ GPB bPB ⟨aPB, iPB, kPB⟩ GFG bFG kFG mFG
  have GX2 : FnOk P w K mg base (CXF P w) 5 fX2 _ ["reader"] (spR1 K CF CR twoAt) := ok_X2 FX2 GXF bXF kXF mXF
  have GXI : FnOk P w K mg base (CXF P w) 6 fXI _ ["reader"] (spR2 K CF CR 1 idAt) := ok_XI FXI T ⟨tID_SIGN, PySem.W.mg_of X G gID_SIGN⟩ ⟨tIDENTITY, PySem.W.mg_of X G gIDENTITY⟩ ⟨tIDENTITY_LENGTH, PySem.W.mg_of X G gIDENTITY_LENGTH⟩ GRG bRG ⟨aRG, iRG, kRG⟩ GX2 bX2 kX2 mX2
  have GXG : FnOk P w K mg base (CXF P w) 6 fXG _ ["reader"] (spR2 K CF CR 1 pairedAt) := ok_XG FXG T ⟨tQUOTE, PySem.W.mg_of X G gQUOTE⟩ GSB bSB ⟨aSB, iSB, kSB⟩ GRG bRG ⟨aRG, iRG, kRG⟩ GXW bXW kXW mXW GX2 bX2 kX2 mX2
  have GXO : FnOk P w K mg base (CXF P w) 5 fXO _ ["reader", "scalar"] (spXO K CF CR) := ok_XO FXO T FFI bFI GXF bXF kXF mXF GIU bIU kIU mIU
  have GXD : FnOk P w K mg base (CXF P w) 6 fXD _ ["reader"] (spR1 K CF CR numberedAt) := ok_XD FXD T FFI bFI ⟨tRECORD_CLOSE, PySem.W.mg_of X G gRECORD_CLOSE⟩ GSB bSB ⟨aSB, iSB, kSB⟩ GRG bRG ⟨aRG, iRG, kRG⟩ GXW bXW kXW mXW GXO bXO kXO mXO
  have GXK : FnOk P w K mg base (CXF P w) 7 fXK _ ["reader"] (spR1 K CF CR behindAt) := ok_XK FXK T FFI bFI ⟨tBACKSLASH, PySem.W.mg_of X G gBACKSLASH⟩ ⟨tSMALL_U, PySem.W.mg_of X G gSMALL_U⟩ ⟨tQUOTE, PySem.W.mg_of X G gQUOTE⟩ ⟨tSMALL_N, PySem.W.mg_of X G gSMALL_N⟩ ⟨tLINE_FEED, PySem.W.mg_of X G gLINE_FEED⟩ GSB bSB ⟨aSB, iSB, kSB⟩ GRG bRG ⟨aRG, iRG, kRG⟩ GPB bPB ⟨aPB, iPB, kPB⟩ GXD bXD kXD mXD
  have GXL : FnOk P w K mg base (CXF P w) 5 fXL _ ["reader"] (spR2 K CF CR 1 scalAt) := ok_XL FXL T GSB bSB ⟨aSB, iSB, kSB⟩ GRB bRB ⟨aRB, iRB, kRB⟩ GPB bPB ⟨aPB, iPB, kPB⟩ GPS bPS kPS mPS
  have GXQ : FnOk P w K mg base (CXF P w) 8 fXQ _ ["reader"] (spR2 K CF CR 1 quoteAt) := ok_XQ FXQ T FFI bFI ⟨tQUOTE, PySem.W.mg_of X G gQUOTE⟩ ⟨tBACKSLASH, PySem.W.mg_of X G gBACKSLASH⟩ ⟨tLINE_FEED, PySem.W.mg_of X G gLINE_FEED⟩ GSB bSB ⟨aSB, iSB, kSB⟩ GRG bRG ⟨aRG, iRG, kRG⟩ GXK bXK kXK mXK GXL bXL kXL mXL GIU bIU kIU mIU
  have GXP : FnOk P w K mg base (CXF P w) 4 fXP _ ["reader", "below_0"] (spXP K CF CR) := ok_XP FXP T FFI bFI ⟨tNOUGHT, PySem.W.mg_of X G gNOUGHT⟩ GSB bSB ⟨aSB, iSB, kSB⟩ GPB bPB ⟨aPB, iPB, kPB⟩ GI1 bI1 kI1 mI1
  have GXS : FnOk P w K mg base (CXF P w) 5 fXS _ ["reader", "start"] (spXS K CF CR) := ok_XS FXS T FFI bFI ⟨tNOUGHT, PySem.W.mg_of X G gNOUGHT⟩ ⟨tMINUS, PySem.W.mg_of X G gMINUS⟩ ⟨tMOST_FIGURES, PySem.W.mg_of X G gMOST_FIGURES⟩ ⟨tOUT_OF_RANGE, PySem.W.mg_of X G gOUT_OF_RANGE⟩ GSB bSB ⟨aSB, iSB, kSB⟩ GRG bRG ⟨aRG, iRG, kRG⟩ GXP bXP kXP mXP
  have GVR : FnOk P w K mg base CX0 1 fVR _ ["amount"] (spVR) := ok_VR FVR
  have GAR : FnOk P w K mg base CX0 1 fAR _ ["amount"] (spAR) := ok_AR FAR
  have GNR : FnOk P w K mg base CX0 2 fNR _ ["number"] (spNR) := ok_NR FNR ⟨tNUMBER, PySem.W.mg_of X G gNUMBER⟩ T.len (PySem.W.ns_none_of X G zabs) GAR bAR kAR mAR GVR bVR kVR mVR
  have GIR : FnOk P w K mg base CX0 1 fIR _ ["number"] (spIR) := ok_IR FIR ⟨tLONGEST_NUMBER, PySem.W.mg_of X G gLONGEST_NUMBER⟩
  have GKR : FnOk P w K mg base CX0 2 fKR _ ["kind", "how_many", "inner"] (spKR K) := ok_KR FKR GVR bVR kVR mVR
  have GXU : FnOk P w K mg base (CXF P w) 6 fXU _ ["reader"] (spR2 K CF CR 7 numAt) := ok_XU FXU T FFI bFI ⟨tOUT_OF_RANGE, PySem.W.mg_of X G gOUT_OF_RANGE⟩ GXS bXS kXS mXS GIR bIR kIR mIR GNR bNR kNR mNR
  have GMR : FnOk P w K mg base CX0 1 fMR _ ["number"] (spMR) := ok_MR FMR ⟨tMOMENT, PySem.W.mg_of X G gMOMENT⟩ ⟨tMOMENT_LENGTH, PySem.W.mg_of X G gMOMENT_LENGTH⟩ (PySem.W.ns_none_of X G zrange)
  have GXM : FnOk P w K mg base (CXF P w) 6 fXM _ ["reader"] (spR2 K CF CR 7 momAt) := ok_XM FXM T FFI bFI ⟨tOUT_OF_RANGE, PySem.W.mg_of X G gOUT_OF_RANGE⟩ ⟨tMOMENT_SIGN, PySem.W.mg_of X G gMOMENT_SIGN⟩ GRG bRG ⟨aRG, iRG, kRG⟩ GXS bXS kXS mXS GMR bMR kMR mMR
  have GX0 : FnOk P w K mg base CX0 2 fX0 _ ["byte"] (spB2 atomB) := ok_X0 FX0 ⟨tSMALL_N, PySem.W.mg_of X G gSMALL_N⟩ ⟨tSMALL_Y, PySem.W.mg_of X G gSMALL_Y⟩ ⟨tMINUS, PySem.W.mg_of X G gMINUS⟩ ⟨tSMALL_X, PySem.W.mg_of X G gSMALL_X⟩ ⟨tQUOTE, PySem.W.mg_of X G gQUOTE⟩ ⟨tMOMENT_SIGN, PySem.W.mg_of X G gMOMENT_SIGN⟩ ⟨tID_SIGN, PySem.W.mg_of X G gID_SIGN⟩ GI1 bI1 kI1 mI1
  have GXA : FnOk P w K mg base (CXF P w) 9 fXA _ ["reader"] (spR2 K CF CR 7 atomAt) := ok_XA FXA T ⟨tSMALL_N, PySem.W.mg_of X G gSMALL_N⟩ ⟨tSMALL_Y, PySem.W.mg_of X G gSMALL_Y⟩ ⟨tSMALL_X, PySem.W.mg_of X G gSMALL_X⟩ ⟨tQUOTE, PySem.W.mg_of X G gQUOTE⟩ ⟨tMOMENT_SIGN, PySem.W.mg_of X G gMOMENT_SIGN⟩ ⟨tID_SIGN, PySem.W.mg_of X G gID_SIGN⟩ ⟨tNO, PySem.W.mg_of X G gNO⟩ ⟨tYES, PySem.W.mg_of X G gYES⟩ ⟨tBYTES, PySem.W.mg_of X G gBYTES⟩ ⟨tTEXT, PySem.W.mg_of X G gTEXT⟩ GSB bSB ⟨aSB, iSB, kSB⟩ GXW bXW kXW mXW GXG bXG kXG mXG GXQ bXQ kXQ mXQ GXM bXM kXM mXM GXI bXI kXI mXI GXU bXU kXU mXU GKR bKR kKR mKR
  have GHI : FnOk P w K mg base CX0 1 fHI _ ["self", "kind"] (spHI CH) := ok_HI FHI TH
  have GXC : FnOk P w K mg base CX0 1 fXC _ ["holder"] (spXC CH) := ok_XC FXC TH
  have GXH : FnOk P w K mg base (CXF P w) 5 fXH _ ["reader", "holder"] (spXH K CF CR CH) := ok_XH FXH T TH GRG bRG ⟨aRG, iRG, kRG⟩ GXC bXC kXC mXC GKR bKR kKR mKR
  have GXN : FnOk P w K mg base (CXF P w) 4 fXN _ ["reader"] (spR2 K CF CR 1 bareAt) := ok_XN FXN T GSB bSB ⟨aSB, iSB, kSB⟩ GPB bPB ⟨aPB, iPB, kPB⟩ GIG bIG kIG mIG
  have GRN : FnOk P w K mg base (CXF P w) 9 fRN _ ["reader", "holder"] (spRN K CF CR CH) := ok_RN FRN T TH FFI bFI ⟨tQUOTE, PySem.W.mg_of X G gQUOTE⟩ GSB bSB ⟨aSB, iSB, kSB⟩ GXQ bXQ kXQ mXQ GSI bSI kSI mSI GIL bIL kIL mIL GXN bXN kXN mXN
  have GBM : FnOk P w K mg base (CXF P w) 10 fBM _ ["reader", "holder"] (spBM K CF CR CH) := ok_BM FBM T TH ⟨tCOLON, PySem.W.mg_of X G gCOLON⟩ ⟨tBLANK, PySem.W.mg_of X G gBLANK⟩ GRG bRG ⟨aRG, iRG, kRG⟩ GRN bRN kRN mRN GVR bVR kVR mVR
  have GXB : FnOk P w K mg base (CXF P w) 11 fXB _ ["reader", "begun"] (spXB K CF CR CH) := ok_XB FXB T TH FFI bFI ⟨tLIST_OPEN, PySem.W.mg_of X G gLIST_OPEN⟩ ⟨tRECORD_OPEN, PySem.W.mg_of X G gRECORD_OPEN⟩ ⟨tDEEPEST, PySem.W.mg_of X G gDEEPEST⟩ ⟨tTOO_DEEP, PySem.W.mg_of X G gTOO_DEEP⟩ GSB bSB ⟨aSB, iSB, kSB⟩ GRG bRG ⟨aRG, iRG, kRG⟩ GX0 bX0 kX0 mX0 GXA bXA kXA mXA ⟨mkCH, aHI, iHI, kcCH⟩ GHI bHI GXC bXC kXC mXC GXH bXH kXH mXH GBM bBM kBM mBM
  have GXE : FnOk P w K mg base (CXF P w) 11 fXE _ ["reader", "begun", "value"] (spXE K CF CR CH) := ok_XE FXE T TH ⟨tCOMMA, PySem.W.mg_of X G gCOMMA⟩ ⟨tBLANK, PySem.W.mg_of X G gBLANK⟩ GSB bSB ⟨aSB, iSB, kSB⟩ GRG bRG ⟨aRG, iRG, kRG⟩ GXC bXC kXC mXC GXH bXH kXH mXH GBM bBM kBM mBM
  have GXT : FnOk P w K mg base (CXF P w) 12 fXT _ ["row"] (spXT K CF) := ok_XT FXT T FFI bFI (PySem.W.mg_of X G aCR) ⟨tBYTES_BEHIND, PySem.W.mg_of X G gBYTES_BEHIND⟩ ⟨tTOO_LONG, PySem.W.mg_of X G gTOO_LONG⟩ ⟨tLONGEST_VALUE, PySem.W.mg_of X G gLONGEST_VALUE⟩ ⟨mkCR, aRI, iRI, kcCR⟩ GRI bRI GXB bXB kXB mXB GXE bXE kXE mXE
  exact ok_RD FEN xc (PySem.W.mg_of X G aCF) GXT bXT kXT mXT
end L2.J

set_option Elab.async false
set_option linter.all false
theorem PySem.W.Fast.tw14599525347720333893 : True := trivial
theorem PySem.W.Fast.tw1312137298419354308 : True := trivial
theorem PySem.W.Fast.tw17054021835476510824 : True := trivial
theorem PySem.W.Fast.tw4983083286743463070 : True := trivial
theorem PySem.W.Fast.tw1911224795081041142 : True := trivial
theorem PySem.W.Fast.tw16515577885809820858 : True := trivial
theorem PySem.W.Fast.tw1668631946608083398 : True := trivial
theorem PySem.W.Fast.tw6745616309633642122 : True := trivial
theorem PySem.W.Fast.tw13898228829620586873 : True := trivial
theorem PySem.W.Fast.tw13347066387038976878 : True := trivial
theorem PySem.W.Fast.tw8467858915604436179 : True := trivial
theorem PySem.W.Fast.tw424149713359539202 : True := trivial
theorem PySem.W.Fast.tw5004879990745115234 : True := trivial
theorem PySem.W.Fast.tw8392738401230436223 : True := trivial
theorem PySem.W.Fast.tw305593676890473097 : True := trivial
theorem PySem.W.Fast.tw4675301267821945715 : True := trivial
theorem PySem.W.Fast.tw4960584567735962718 : True := trivial
theorem PySem.W.Fast.tw17632016679446982821 : True := trivial
theorem PySem.W.Fast.tw3539374636269498576 : True := trivial
theorem PySem.W.Fast.tw1668420447687180055 : True := trivial
theorem PySem.W.Fast.tw13544670308404328014 : True := trivial
theorem PySem.W.Fast.tw15266874820707728731 : True := trivial
theorem PySem.W.Fast.tw14049262610582536546 : True := trivial
theorem PySem.W.Fast.tw13786558879212925056 : True := trivial
theorem PySem.W.Fast.tw18375303738627998414 : True := trivial
theorem PySem.W.Fast.tw417954526637862402 : True := trivial
theorem PySem.W.Fast.tw2969490224952686075 : True := trivial
theorem PySem.W.Fast.tw14565319931968268776 : True := trivial
theorem PySem.W.Fast.tw8944717774505281021 : True := trivial
theorem PySem.W.Fast.tw6624883848456753535 : True := trivial
theorem PySem.W.Fast.tw75940085666767339 : True := trivial
theorem PySem.W.Fast.tw11214383553798792582 : True := trivial
theorem PySem.W.Fast.tw18363269858626958337 : True := trivial
theorem PySem.W.Fast.tw1126137388702124647 : True := trivial
theorem PySem.W.Fast.tw10410693184681458012 : True := trivial
theorem PySem.W.Fast.tw8609592414203910312 : True := trivial
theorem PySem.W.Fast.tw15023540722398149585 : True := trivial
theorem PySem.W.Fast.tw2148413566338390737 : True := trivial
theorem PySem.W.Fast.tw16552370024858391185 : True := trivial
theorem PySem.W.Fast.tw15777776397502576089 : True := trivial
theorem PySem.W.Fast.tw9766222393129559788 : True := trivial
theorem PySem.W.Fast.tw2427922606664166193 : True := trivial
theorem PySem.W.Fast.tw8029646157555434327 : True := trivial
theorem PySem.W.Fast.tw14445876722739200698 : True := trivial
theorem PySem.W.Fast.tw16554036157411096221 : True := trivial
theorem PySem.W.Fast.tw10991706131845730489 : True := trivial
theorem PySem.W.Fast.tw7147097510085566068 : True := trivial
theorem PySem.W.Fast.tw4665815950132063696 : True := trivial
theorem PySem.W.Fast.tw3117618384982944929 : True := trivial
theorem PySem.W.Fast.tw16480819170597357238 : True := trivial
theorem PySem.W.Fast.tw18269581322231993134 : True := trivial
theorem PySem.W.Fast.tw2140350220784252529 : True := trivial
theorem PySem.W.Fast.tw4346324224403780929 : True := trivial
theorem PySem.W.Fast.tw2837805032178658248 : True := trivial
theorem PySem.W.Fast.tw9936692848484332053 : True := trivial
theorem PySem.W.Fast.tw7992269997951339612 : True := trivial
theorem PySem.W.Fast.tw2526926640280730615 : True := trivial
theorem PySem.W.Fast.tw3265237788713872596 : True := trivial
theorem PySem.W.Fast.tw3500137542713270749 : True := trivial
theorem PySem.W.Fast.tw14819071722393109032 : True := trivial
theorem PySem.W.Fast.tw10085186038974070364 : True := trivial
theorem PySem.W.Fast.tw14480096088154889851 : True := trivial
theorem PySem.W.Fast.tw3249535544160510581 : True := trivial
theorem PySem.W.Fast.tw10842008742671492493 : True := trivial
theorem PySem.W.Fast.tw10031161468203164124 : True := trivial
theorem PySem.W.Fast.tw9262135141697142215 : True := trivial
theorem PySem.W.Fast.tw8446332717486328388 : True := trivial
theorem PySem.W.Fast.tw14416562309647660265 : True := trivial
theorem PySem.W.Fast.tw4086077748469503823 : True := trivial
theorem PySem.W.Fast.tw4882348006149949393 : True := trivial
theorem PySem.W.Fast.tw5213791082313461969 : True := trivial
theorem PySem.W.Fast.tw5961020680242474130 : True := trivial
theorem PySem.W.Fast.tw13236821920468197252 : True := trivial
theorem PySem.W.Fast.tw6409084425691680694 : True := trivial
theorem PySem.W.Fast.tw4337341253607033806 : True := trivial
theorem PySem.W.Fast.tw15809096874858222960 : True := trivial
theorem PySem.W.Fast.tw17251434858239666112 : True := trivial
theorem PySem.W.Fast.tw2851195056214385655 : True := trivial
theorem PySem.W.Fast.tw13294024201711048662 : True := trivial
theorem PySem.W.Fast.tw13101513451769614486 : True := trivial
theorem PySem.W.Fast.tw16361953013186954391 : True := trivial
theorem PySem.W.Fast.tw6972214728446838088 : True := trivial
theorem PySem.W.Fast.tw9542706196873898402 : True := trivial
theorem PySem.W.Fast.tw13225340939404288997 : True := trivial
theorem PySem.W.Fast.tw9800669481390436252 : True := trivial
theorem PySem.W.Fast.tw9233406454677146699 : True := trivial
theorem PySem.W.Fast.tw2223095550645784347 : True := trivial
theorem PySem.W.Fast.tw14720857550893402561 : True := trivial
theorem PySem.W.Fast.tw12306903776588606185 : True := trivial
theorem PySem.W.Fast.tw1901183041375827950 : True := trivial
theorem PySem.W.Fast.tw13444064423817330311 : True := trivial
theorem PySem.W.Fast.tw405170969223685210 : True := trivial
theorem PySem.W.Fast.tw13893172552099116932 : True := trivial
theorem PySem.W.Fast.tw13939270057676041116 : True := trivial
theorem PySem.W.Fast.tw3046368889402724748 : True := trivial
theorem PySem.W.Fast.tw11464518870476713267 : True := trivial
theorem PySem.W.Fast.tw7288702109646891445 : True := trivial
theorem PySem.W.Fast.tw17085118768963087910 : True := trivial
theorem PySem.W.Fast.tw16688696950056059846 : True := trivial
theorem PySem.W.Fast.tw10582629427915529692 : True := trivial
theorem PySem.W.Fast.tw6527336746417824362 : True := trivial
theorem PySem.W.Fast.tw1424875757800448678 : True := trivial
theorem PySem.W.Fast.tw4983661148900808555 : True := trivial
open PySem PySem.W PyProof.Rows
set_option maxRecDepth 100000 in
set_option maxHeartbeats 0 in
theorem PySem.Challenge.cw_onevalues_s06_read_holds : PySem.Challenge.rw_onevalues_s06_read.Holds := by
  w_on; k_headS; (case hw => exact ⟨[.list []], by decide +kernel, by decide +kernel⟩)
  k_fillS
  refine L2.walk_specK (r := PySem.Challenge.rw_onevalues_s06_read) (k := 13) (CX := L2.CX0) (ps := ["t"]) (sp := fun K => L2.J.spRD K) (by decide +kernel) rfl rfl ⟨rfl, by decide, by decide⟩ (fun w h Y => PySem.W.kIn_of Y) ?F ?S (fun _ _ _ _ z => z)
  case F =>
    intro w mg fa h Y KX G hmg
    refine' L2.J.all_mk KX G hmg ?_ ?_ ?_ ?_ ?_ ?_ ?_ ?_ ?_ ?_ ?_ ?_ ?_ ?_ ?_ ?_ ?_ ?_ ?_ ?_ ?_ ?_ ?_ ?_ ?_ ?_ ?_ ?_ ?_ ?_ ?_ ?_ ?_ ?_ ?_ ?_ ?_ ?_ ?_ ?_ ?_ ?_ ?_ ?_ ?_ ?_ ?_ ?_ ?_ ?_ ?_ ?_ ?_ ?_ ?_ ?_ ?_ ?_ ?_ ?_ ?_ ?_ ?_ ?_ ?_ ?_ ?_ ?_ ?_ ?_ ?_ ?_ ?_ ?_ ?_ ?_ ?_ ?_ ?_ ?_ ?_ ?_ ?_ ?_ ?_ ?_ ?_ ?_ ?_ ?_ ?_ ?_ ?_ ?_ ?_ ?_ ?_ ?_ ?_ ?_ ?_ ?_ ?_ ?_ ?_ ?_ ?_ ?_ ?_ ?_ ?_ ?_ ?_ ?_ ?_ ?_ ?_ ?_ ?_ ?_ ?_ ?_ ?_ ?_ ?_ ?_ ?_ ?_ ?_ ?_ ?_ ?_ ?_ ?_ ?_ ?_ ?_ ?_ ?_ ?_ ?_ ?_ ?_ ?_ ?_ ?_ ?_ ?_ ?_ ?_ ?_ ?_ ?_ ?_ ?_ ?_ ?_ ?_ ?_ ?_ ?_ ?_ ?_ ?_ ?_ ?_ ?_ ?_ ?_ ?_ ?_ ?_ ?_ ?_ ?_ ?_ ?_ ?_ ?_ ?_ ?_ ?_ ?_ ?_ ?_ ?_ ?_ ?_ ?_ ?_ ?_ ?_ ?_ ?_ ?_ ?_ ?_ ?_ ?_ ?_ ?_ ?_ ?_ ?_ ?_ ?_ ?_ ?_ ?_ ?_ ?_ ?_ ?_ ?_ ?_ ?_ ?_ ?_ ?_ ?_ ?_ ?_ ?_ ?_ ?_ ?_ ?_ ?_ ?_ ?_ ?_ ?_ ?_ ?_ ?_ ?_ ?_ ?_ ?_ ?_ ?_ ?_ ?_ ?_ ?_ ?_ ?_ ?_ ?_ ?_ ?_ ?_ ?_ ?_ ?_ ?_ ?_ ?_ ?_ ?_ ?_ ?_ ?_ ?_ ?_ ?_ ?_ ?_ ?_ ?_ ?_ ?_ ?_ ?_ ?_ ?_ ?_ ?_ ?_ ?_ ?_ ?_ ?_ ?_ ?_
    any_goals first | k_is | (simp [L2.XC.keysOk]; done)
  case S =>
    intro K H xs a hO hwi hask hx
    cases hx with
    | cons h0 r0 =>
      cases r0
      cases h0 with
      | lst hs0 ha0 =>
        have e0 := L2.ints_dw a.1 _ ha0
        subst e0
        have q : ((Codec.inLen 0 65536 a.1 && a.1.all (Codec.inInt 0 255)) && true) = true := hwi
        simp only [Bool.and_eq_true] at q
        have hb0 : ∀ x ∈ a.1, 0 ≤ x ∧ x ≤ 255 := fun x hx => Codec.inInt_iff.mp (List.all_eq_true.mp q.1.2 x hx)
        obtain ⟨bs0, eb0, el0⟩ := L2.J.ints_bytes a.1 hb0
        have hz0 : bs0.length ≤ 65536 := by rw [el0]; exact (Codec.inNat_iff.mp q.1.1).2
        have hd : PyYqswga.read a.1 = L2.J.readL bs0 := by rw [eb0]; exact L2.J.read_is bs0 hz0
        rw [eb0, ← L2.J.bv_ints] at hs0
        refine ⟨_, bs0, rfl, hs0, hz0, fun H' p hp => ?_⟩
        rw [← hd] at hp
        exact .lst (L2.SqL.of hp) (L2.dw_ints _)
#print axioms PySem.Challenge.cw_onevalues_s06_read_holds
