import PyProof.Rows.All
import Wide.All
import OpenK.AllK
import Wide.FinOn
import PyProof.EqAt
import PyProof.EqKinds
import PyProof.TupleCall
import Open.SpecLaws
import KE.OsHead
import KE.OsGo
import PyProof.ExcInit
import PyProof.InstStoreFacts
import PyProof.StationsW
import PyProof.ExcBaseAll.Exception
import PyProof.ExcAttrAll.Exception
import PyProof.RulesAs
import KE.KTryMore
import PySem.Challenge.RW_onevalues_s13_number
set_option Elab.async false
set_option linter.all false
set_option maxRecDepth 100000
/-! THE HAND LAYER, for ints, bools, texts, own classes, LISTS and tuples (index, slices, in, append, pop ..), calls, loops. Paste it whole ahead of your own text; what your proof does not reach may be deleted. -/
namespace L2
open PySem PySem.Spec PyProof.Rows

/-- a key: an int or a str -/
abbrev Key := Sum Int Str
def keyIs : Key → Value → Bool
  | .inl k, v => Value.isInt k v
  | .inr x, v => Value.isStrOf x v
def keyH (w : World) : Key → Int
  | .inl k => hashInt k
  | .inr x => hashStr w x
theorem keyIs_shape : ∀ {k : Key} {v : Value}, keyIs k v = true → (∃ i t, k = Sum.inl i ∧ v = Value.int i t) ∨ (∃ x t, k = Sum.inr x ∧ v = Value.str x t)
  | .inl i, v, h => by
    obtain ⟨t, e⟩ := Value.isInt_shape (k := i) (v := v) h
    exact .inl ⟨i, t, rfl, e⟩
  | .inr x, v, h => by
    obtain ⟨t, e⟩ := Value.isStrOf_shape (x := x) (v := v) h
    exact .inr ⟨x, t, rfl, e⟩
theorem key_ll (a b : Int) : decide ((Sum.inl a : Key) = Sum.inl b) = (a == b) := by
  by_cases e : a = b
  · subst e; simp
  · have h : ¬ (Sum.inl a : Key) = Sum.inl b := fun q => e (Sum.inl.inj q)
    rw [decide_eq_false h]
    exact (beq_eq_false_iff_ne.mpr e).symm
theorem key_rr (a b : Str) : decide ((Sum.inr a : Key) = Sum.inr b) = decide (a = b) := by
  by_cases e : a = b
  · subst e; simp
  · have h : ¬ (Sum.inr a : Key) = Sum.inr b := fun q => e (Sum.inr.inj q)
    rw [decide_eq_false h, decide_eq_false e]
theorem key_lr (a : Int) (b : Str) : decide ((Sum.inl a : Key) = Sum.inr b) = false := decide_eq_false (fun q => nomatch q)
theorem key_rl (a : Str) (b : Int) : decide ((Sum.inr a : Key) = Sum.inl b) = false := decide_eq_false (fun q => nomatch q)

def mixKind (prog : Program) (w : World) : PySem.KeyKind prog w Key where
  is := keyIs
  hash := keyH w
  inj := fun v a b ha hb => by
    rcases keyIs_shape ha with ⟨i, t, rfl, rfl⟩ | ⟨x, t, rfl, rfl⟩
    · rcases keyIs_shape hb with ⟨j, u, rfl, e⟩ | ⟨y, u, rfl, e⟩
      · injection e with e1 _; rw [e1]
      · exact nomatch e
    · rcases keyIs_shape hb with ⟨j, u, rfl, e⟩ | ⟨y, u, rfl, e⟩
      · exact nomatch e
      · injection e with e1 _; rw [e1]
  byValue := fun k v h => by
    rcases keyIs_shape h with ⟨i, t, rfl, rfl⟩ | ⟨x, t, rfl, rfl⟩ <;> rfl
  pyHash := fun hv h => by
    rcases keyIs_shape hv with ⟨i, t, rfl, rfl⟩ | ⟨x, t, rfl, rfl⟩
    · exact wpAny_pyHash_int h
    · exact wpAny_pyHash_str h
  eqBool := fun hu hv h => by
    rcases keyIs_shape hu with ⟨i, t, rfl, rfl⟩ | ⟨x, t, rfl, rfl⟩
    · rcases keyIs_shape hv with ⟨j, u, rfl, rfl⟩ | ⟨y, u, rfl, rfl⟩
      · rw [key_ll] at h; exact wpAny_eqBool_int h
      · rw [key_lr] at h; exact SeqAt.EqAt.int_str i t y u _ _ _ _ h
    · rcases keyIs_shape hv with ⟨j, u, rfl, rfl⟩ | ⟨y, u, rfl, rfl⟩
      · rw [key_rl] at h; exact SeqAt.EqAt.str_int x t j u _ _ _ _ h
      · rw [key_rr] at h; exact wpAny_eqBool_str h
  «strs» := fun k x t v h => by
    rcases keyIs_shape h with ⟨i, u, rfl, e⟩ | ⟨y, u, rfl, e⟩
    · exact nomatch e
    · injection e with e1 _
      subst e1
      cases v <;> rfl

end L2

namespace L2
open PySem PySem.Spec PyProof.Rows

/-- a value, without the heap -/
inductive V where
  | non | bl (b : Bool) | int (i : Int) | str (x : Str) | byt (b : Array UInt8) | flt (b : UInt64) | ref (a : Addr) | ty (n : String)
  deriving DecidableEq

def RelV : V → Value → Prop
  | .non, u => u = Value.none
  | .bl b, u => u = Value.bool b
  | .int i, u => ∃ t, u = Value.int i t
  | .str x, u => ∃ t, u = Value.str x t
  | .byt b, u => ∃ t, u = Value.bytes b t
  | .flt b, u => ∃ t, u = Value.float b t
  | .ref a, u => u = Value.ref a
  | .ty n, u => u = Value.type n

abbrev Vals : List V → List Value → Prop := Paired RelV
theorem Vals.length {xs : List V} {us : List Value} (r : Vals xs us) : xs.length = us.length := Paired.length r
theorem Vals.get : ∀ {xs : List V} {us : List Value} {i : Nat} {x : V}, Vals xs us → xs[i]? = some x → ∃ u, us[i]? = some u ∧ RelV x u
  | _, _, _, _, .nil, e => by simp at e
  | _, _, 0, _, .cons r _, e => by simp at e; subst e; exact ⟨_, rfl, r⟩
  | _, _, i + 1, x, .cons _ t, e => by
    obtain ⟨u, h1, h2⟩ := Vals.get (i := i) (x := x) t (by simpa using e)
    exact ⟨u, by simpa using h1, h2⟩
theorem Vals.append : ∀ {xs ys : List V} {us ws : List Value}, Vals xs us → Vals ys ws → Vals (xs ++ ys) (us ++ ws)
  | _, _, _, _, .nil, s => s
  | _, _, _, _, .cons r t, s => .cons r (Vals.append t s)
theorem Vals.take : ∀ {xs : List V} {us : List Value} (n : Nat), Vals xs us → Vals (xs.take n) (us.take n)
  | _, _, 0, _ => .nil
  | _, _, _ + 1, .nil => .nil
  | _, _, n + 1, .cons r t => .cons r (Vals.take n t)
theorem Vals.drop : ∀ {xs : List V} {us : List Value} (n : Nat), Vals xs us → Vals (xs.drop n) (us.drop n)
  | _, _, 0, r => r
  | _, _, _ + 1, .nil => .nil
  | _, _, n + 1, .cons _ t => Vals.drop n t
def RelO : Option V → Option Value → Prop
  | some v, some u => RelV v u
  | none, none => True
  | _, _ => False
def KV {κ : Type} : List (κ × V) → List (κ × Value) → Prop := Paired fun (p : κ × V) (q : κ × Value) => p.1 = q.1 ∧ RelV p.2 q.2

/-- a key of a dict (00_mix): an int or a text -/
def kV : Key → V
  | .inl i => .int i
  | .inr x => .str x

/-- what stands at a tracked address -/
inductive HO where
  /-- a list -/
  | lst (xs : List V)
  /-- a tuple (never changes) -/
  | tup (xs : List V)
  /-- a dict whose keys are ints and texts; one whose keys are tuples of ints and texts (the empty one is both) -/
  | dK (kvs : List (Key × V)) | dT (kvs : List (List Key × V))
  /-- a set of ints: its members, its size -/
  | set (S : Int → Bool) (n : Nat)
  /-- an instance of the class at C, its dict at dx, its attributes -/
  | ins (C dx : Addr) (fs : List (Str × V))
  /-- the dict of the instance at x -/
  | own (x : Addr)
  /-- the dict of an exception -/
  | xd (fs : List (Str × V))
  /-- a bound method, f of x -/
  | met (f x : Addr)
  /-- a range object lo, lo + 1, .. below hi -/
  | rng (lo hi : Int)
  /-- a thing that is known to the object (the script; a dict while a loop walks it): read, never written while it is so -/
  | frz (o : Obj) (u : HO)
  /-- a code object's table -/
  | tbl (ps : Array Value)
  /-- any other thing, by what is true of its one object (a def of one's own: SetO a S n := HO.ext fun h => ..) -/
  | ext (φ : Heap → Prop)

abbrev Hp := Addr → Option HO
def upd (H : Hp) (a : Addr) (o : HO) : Hp := fun b => if b = a then some o else H b
theorem upd_same {H : Hp} {a : Addr} {o : HO} : upd H a o a = some o := by unfold upd; rw [if_pos rfl]
theorem upd_ne {H : Hp} {a b : Addr} {o : HO} (h : b ≠ a) : upd H a o b = H b := by unfold upd; rw [if_neg h]
/-- two objects of different content stand apart -/
theorem ne_of {H : Hp} {a b : Addr} {o u : HO} (h : H a = some o) (h' : H b = some u) (d : o ≠ u) : a ≠ b := by
  intro e; subst e; rw [h] at h'; exact d (Option.some.inj h')
theorem ne_of_none {H : Hp} {a b : Addr} {o : HO} (h : H a = some o) (h' : H b = none) : a ≠ b := by
  intro e; subst e; rw [h] at h'; cases h'

section
variable (P : Program) (w : World)
def ObjOk (H : Hp) (h : Heap) (a : Addr) : HO → Prop
  | .lst xs => xs.length ≤ sizeLine ∧ ∃ (its : List Value) (n : Nat), Vals xs its ∧ h.get? a = some { cls := .type "list", data := .seq its.toArray n }
  | .tup xs => xs.length ≤ sizeLine ∧ ∃ its : List Value, Vals xs its ∧ IsTup h a its.toArray
  | .dK kvs => kvs.length ≤ sizeLine ∧ (a == sysModules) = false ∧ ∃ vs, KV kvs vs ∧ h.DictOf (mixKind P w) a vs
  | .dT kvs => kvs.length ≤ sizeLine ∧ (a == sysModules) = false ∧ ∃ xs : List (List Key × Addr × Value),
      Paired (fun (p : List Key × V) (q : List Key × Addr × Value) => p.1 = q.1 ∧ H q.2.1 = some (.tup (p.1.map kV)) ∧ RelV p.2 q.2.2) kvs xs ∧
      ∃ o es ep, h.get? a = some o ∧ o.ExactDict ∧ o.data = .dict es ep ∧ es.toList = xs.map (entryOfKey (tupleKind (mixKind P w))) ∧ (xs.map (·.1)).Nodup
  | .set S n => h.SetOf (intKind P w) a S n
  | .ins C dx fs => H dx = some (.own a) ∧ fs.length ≤ 1000 ∧ dx ≠ a ∧ h.get? a = some (PySem.W.instObj C dx) ∧
      ∃ mA, h.Ns1 dx mA ∧ (∀ f, RelO (fs.lookup f) (mA f)) ∧ PySem.Within mA (fs.map (·.1))
  | .own _ => ∃ o, h.get? a = some o
  | .xd fs => ∃ mA, h.Ns1 a mA ∧ ∀ f, RelO (fs.lookup f) (mA f)
  | .rng lo hi => ∃ t u v, h.get? a = some { cls := .type "range", data := .fields #[.int lo t, .int hi u, .int 1 v] }
  | .frz o u => h.get? a = some o ∧ ObjOk H h a u
  | .tbl ps => h.get? a = some { cls := .none, data := .fields ps }
  | .met f x => h.get? a = some (PySem.W.methodObj (.ref f) (.ref x))
  | .ext φ => φ h ∧ (∃ o, h.get? a = some o) ∧ ∀ h1 h2 : Heap, φ h1 → (∀ o, h1.get? a = some o → h2.get? a = some o) → φ h2
/-- the abstract heap is held -/
def HOk (H : Hp) (h : Heap) : Prop := ∀ a o, H a = some o → ObjOk P w H h a o
end

section
variable {P : Program} {w : World} {H H' : Hp} {h h' : Heap} {a : Addr} {o : HO}
theorem ObjOk.lt (x : ObjOk P w H h a o) : a < h.objs.size := by
  cases o with
  | lst xs => obtain ⟨_, _, _, _, e⟩ := x; exact Heap.lt_size e
  | tup xs => obtain ⟨_, _, _, p⟩ := x; exact p.lt
  | dK kvs => obtain ⟨_, _, _, _, o, _, _, e, _⟩ := x; exact Heap.lt_size e
  | dT kvs => obtain ⟨_, _, _, _, o, _, _, e, _⟩ := x; exact Heap.lt_size e
  | set S n => obtain ⟨o, _, _, _, e, _⟩ := x; exact Heap.lt_size e
  | ins C dx fs => obtain ⟨_, _, _, e, _⟩ := x; exact Heap.lt_size e
  | own y => obtain ⟨_, e⟩ := x; exact Heap.lt_size e
  | xd fs => obtain ⟨_, ⟨_, _, _, e, _⟩, _⟩ := x; exact Heap.lt_size e
  | rng lo hi => obtain ⟨_, _, _, e⟩ := x; exact Heap.lt_size e
  | frz ob u => obtain ⟨e, _⟩ := x; exact Heap.lt_size e
  | tbl ps => exact Heap.lt_size (show h.get? a = some _ from x)
  | met f y => exact Heap.lt_size (show h.get? a = some _ from x)
  | ext φ => obtain ⟨_, ⟨_, e⟩, _⟩ := x; exact Heap.lt_size e
theorem Paired.mapP {α β : Type} {F G : α → β → Prop} : ∀ {l₁ : List α} {l₂ : List β}, Paired F l₁ l₂ → (∀ a b, F a b → G a b) → Paired G l₁ l₂
  | _, _, .nil, _ => .nil
  | _, _, .cons r t, f => .cons (f _ _ r) (Paired.mapP t f)
/-- what an object's description leans on: its own object, its own dict, the tuples -/
theorem ObjOk.stay (x : ObjOk P w H h a o) (k : ∀ b u, (b = a ∨ H b = some (.own a)) → h.get? b = some u → h'.get? b = some u)
    (ho : ∀ b, H b = some (.own a) → H' b = some (.own a)) (ht : ∀ b xs, H b = some (.tup xs) → H' b = some (.tup xs)) : ObjOk P w H' h' a o := by
  induction o with
  | lst xs => obtain ⟨z, its, n, r, e⟩ := x; exact ⟨z, its, n, r, k _ _ (.inl rfl) e⟩
  | tup xs => obtain ⟨z, its, r, ob, e, c⟩ := x; exact ⟨z, its, r, ob, k _ _ (.inl rfl) e, c⟩
  | dK kvs => obtain ⟨z, y, vs, r, ob, es, ep, e, c⟩ := x; exact ⟨z, y, vs, r, ob, es, ep, k _ _ (.inl rfl) e, c⟩
  | dT kvs =>
    obtain ⟨z, y, xs, r, ob, es, ep, e, c⟩ := x
    exact ⟨z, y, xs, Paired.mapP r fun p q z => ⟨z.1, ht _ _ z.2.1, z.2.2⟩, ob, es, ep, k _ _ (.inl rfl) e, c⟩
  | set S n => obtain ⟨ob, es, ep, t, e, c⟩ := x; exact ⟨ob, es, ep, t, k _ _ (.inl rfl) e, c⟩
  | ins C dx fs =>
    obtain ⟨d, z, ne, e, mA, ⟨od, es, ep, e2, c⟩, r⟩ := x
    exact ⟨ho _ d, z, ne, k _ _ (.inl rfl) e, mA, ⟨od, es, ep, k _ _ (.inr d) e2, c⟩, r⟩
  | own y => obtain ⟨ob, e⟩ := x; exact ⟨ob, k _ _ (.inl rfl) e⟩
  | xd fs => obtain ⟨mA, ⟨od, es, ep, e, c⟩, r⟩ := x; exact ⟨mA, ⟨od, es, ep, k _ _ (.inl rfl) e, c⟩, r⟩
  | rng lo hi => obtain ⟨t, u, v, e⟩ := x; exact ⟨t, u, v, k _ _ (.inl rfl) e⟩
  | frz ob u ih => obtain ⟨e, q⟩ := x; exact ⟨k _ _ (.inl rfl) e, ih q⟩
  | tbl ps =>
    have e : h.get? a = some { cls := .none, data := .fields ps } := x
    show h'.get? a = some { cls := .none, data := .fields ps }
    exact k a _ (.inl rfl) e
  | met f y =>
    have e : h.get? a = some (PySem.W.methodObj (.ref f) (.ref y)) := x
    show h'.get? a = some (PySem.W.methodObj (.ref f) (.ref y))
    exact k a _ (.inl rfl) e
  | ext φ => obtain ⟨p, ⟨o, e⟩, st⟩ := x; exact ⟨st _ _ p fun o q => k _ _ (.inl rfl) q, ⟨o, k _ _ (.inl rfl) e⟩, st⟩
theorem HOk.lt (x : HOk P w H h) (e : H a = some o) : a < h.objs.size := (x a o e).lt
theorem HOk.fresh (x : HOk P w H h) (e : h.objs.size ≤ a) : H a = none := by
  cases q : H a with
  | none => rfl
  | some u => exact absurd (Nat.lt_of_lt_of_le (x.lt q) e) (Nat.lt_irrefl _)
/-- every object of the heap is kept -/
theorem HOk.kept (x : HOk P w H h) (k : ∀ b u, h.get? b = some u → h'.get? b = some u) : HOk P w H h' := fun a o e =>
  (x a o e).stay (fun b u _ q => k b u q) (fun _ q => q) fun _ _ q => q
/-- a new object is laid and tracked -/
theorem HOk.laid (x : HOk P w H h) (k : ∀ b u, h.get? b = some u → h'.get? b = some u) (hp : h.objs.size ≤ a) (new : ObjOk P w (upd H a o) h' a o) : HOk P w (upd H a o) h' := fun b u e => by
  have hn := x.fresh hp
  by_cases hb : b = a
  · subst hb; rw [upd_same] at e; cases e; exact new
  · rw [upd_ne hb] at e
    exact (x b u e).stay (fun c v _ q => k c v q) (fun c q => by rw [upd_ne (ne_of_none q hn)]; exact q) fun c xs q => by rw [upd_ne (ne_of_none q hn)]; exact q
end

/-- what may be read as u: it is u, or a known u -/
def Rd (H : Hp) (a : Addr) (u : HO) : Prop := H a = some u ∨ ∃ o, H a = some (.frz o u)
theorem Rd.ok {P : Program} {w : World} {H : Hp} {h : Heap} {a : Addr} {u : HO} (r : Rd H a u) (x : HOk P w H h) : ObjOk P w H h a u := by
  rcases r with r | ⟨o, r⟩
  · exact x a u r
  · obtain ⟨_, q⟩ := x a _ r
    exact q
/-- what may be written -/
def Mut : Option HO → Prop
  | some (.lst _) => True
  | some (.dK _) => True
  | some (.dT _) => True
  | some (.set _ _) => True
  | some (.ins _ _ _) => True
  | some (.ext _) => True
  | _ => False
section
variable {P : Program} {w : World} {H : Hp} {h h' : Heap} {x e : Addr} {o' : HO}
/-- the object at e is changed: x itself, or the dict of the instance x -/
theorem HOk.write (ok : HOk P w H h) (mu : Mut (H x)) (he : e = x ∨ H e = some (.own x)) (k : ∀ b u, b ≠ e → h.get? b = some u → h'.get? b = some u) (heo : ∃ u, h'.get? e = some u)
    (new : ObjOk P w (upd H x o') h' x o') : HOk P w (upd H x o') h' := fun b u q => by
  have nown : ∀ c y, H c = some (.own y) → c ≠ x := fun c y r z => by subst z; rw [r] at mu; exact mu
  have ntup : ∀ c xs, H c = some (.tup xs) → c ≠ x := fun c xs r z => by subst z; rw [r] at mu; exact mu
  by_cases hb : b = x
  · subst hb; rw [upd_same] at q; cases q; exact new
  · rw [upd_ne hb] at q
    by_cases hbe : b = e
    · have q' : H b = some (.own x) := by
        rcases he with z | z
        · exact absurd (hbe.trans z) hb
        · rw [hbe]; exact z
      rw [q] at q'; cases q'
      obtain ⟨v, hv⟩ := heo
      exact ⟨v, by rw [hbe]; exact hv⟩
    · refine (ok b u q).stay (fun c v hc r => k c v ?_ r) (fun c r => by rw [upd_ne (nown c b r)]; exact r) fun c xs r => by rw [upd_ne (ntup c xs r)]; exact r
      rcases hc with rfl | hc
      · exact hbe
      · rintro rfl
        rcases he with z | z
        · exact nown c b hc z
        · rw [hc] at z; cases z; exact hb rfl
end

/-! ### kept unless tracked; of the frames at fs (the callers') the slots may change (an exception that passes writes there); of the records at ex (iterators) nothing is said -/
structure Un (fs ex : List Addr) (H H' : Hp) (h h' : Heap) : Prop where
  keep : ∀ b o, h.get? b = some o → H b = none → b ∉ fs → b ∉ ex → h'.get? b = some o
  slot : ∀ b o, h.get? b = some o → H b = none → b ∈ fs → b ∉ ex → ∃ sl, h'.get? b = some { o with slots := sl }
  free : ∀ b o, h.get? b = some o → H b = none → b ∉ ex → H' b = none
  there : ∀ b o, h.get? b = some o → b ∉ ex → ∃ o', h'.get? b = some o'
  tups : ∀ b xs, H b = some (.tup xs) → H' b = some (.tup xs)
  frzs : ∀ b o u, H b = some (.frz o u) → H' b = some (.frz o u)
  tbls : ∀ b ps, H b = some (.tbl ps) → ∃ more, H' b = some (.tbl (ps ++ more))
section
variable {fs fs' ex ex' : List Addr} {H H1 H2 : Hp} {h h1 h2 h' : Heap} {a x e : Addr} {o : HO}
theorem Un.any (u : Un fs ex H H1 h h1) {b : Addr} {ob : Obj} (q : h.get? b = some ob) (n : H b = none) (hx : b ∉ ex) : ∃ sl, h1.get? b = some { ob with slots := sl } := by
  by_cases hb : b ∈ fs
  · exact u.slot b ob q n hb hx
  · exact ⟨ob.slots, u.keep b ob q n hb hx⟩
theorem Un.kept (k : ∀ b u, h.get? b = some u → h'.get? b = some u) : Un fs ex H H h h' :=
  ⟨fun b ob q _ _ _ => k b ob q, fun b ob q _ _ _ => ⟨ob.slots, k b ob q⟩, fun _ _ _ n _ => n, fun b ob q _ => ⟨ob, k b ob q⟩, fun _ _ q => q, fun _ _ _ q => q, fun _ ps q => ⟨#[], by rw [q]; simp⟩⟩
theorem Un.refl : Un fs ex H H h h := Un.kept fun _ _ q => q
theorem Un.laid (k : ∀ b u, h.get? b = some u → h'.get? b = some u) (hp : h.objs.size ≤ a) (hn : H a = none) : Un fs ex H (upd H a o) h h' where
  keep := fun b u q _ _ _ => k b u q
  slot := fun b u q _ _ _ => ⟨u.slots, k b u q⟩
  free := fun b u q n _ => by rw [upd_ne (Nat.ne_of_lt (Nat.lt_of_lt_of_le (Heap.lt_size q) hp))]; exact n
  there := fun b u q _ => ⟨u, k b u q⟩
  tups := fun b xs q => by rw [upd_ne (ne_of_none q hn)]; exact q
  frzs := fun b u xs q => by rw [upd_ne (ne_of_none q hn)]; exact q
  tbls := fun b ps q => ⟨#[], by rw [upd_ne (ne_of_none q hn), q]; simp⟩
theorem Un.write (mu : Mut (H x)) (he : e = x ∨ H e = some (.own x)) (k : ∀ b u, b ≠ e → h.get? b = some u → h'.get? b = some u) (heo : ∃ u, h'.get? e = some u) : Un fs ex H (upd H x o) h h' := by
  have hx : ∀ b, H b = none → b ≠ x := fun b n z => by subst z; rw [n] at mu; exact mu
  have hb : ∀ b, H b = none → b ≠ e := fun b n z => by
    subst z
    rcases he with r | r
    · exact hx b n r
    · rw [n] at r; cases r
  have hm : ∀ b u, H b = some u → ¬ Mut (some u) → b ≠ x := fun b u q nm z => by subst z; rw [q] at mu; exact nm mu
  refine ⟨fun b u q n _ _ => k b u (hb b n) q, fun b u q n _ _ => ⟨u.slots, k b u (hb b n) q⟩, fun b u q n _ => by rw [upd_ne (hx b n)]; exact n, fun b u q _ => ?_,
    fun b xs q => by rw [upd_ne (hm b _ q fun z => z)]; exact q, fun b u xs q => by rw [upd_ne (hm b _ q fun z => z)]; exact q, fun b ps q => ⟨#[], by rw [upd_ne (hm b _ q fun z => z), q]; simp⟩⟩
  by_cases hbe : b = e
  · subst hbe; exact heo
  · exact ⟨u, k b u hbe q⟩
end

/-! ### the heap without what is tracked -/
def trk (h : Heap) (H : Hp) : List Addr := (List.range h.objs.size).filter fun a => (H a).isSome
def hidT (h : Heap) (H : Hp) : Heap := PySem.W.hideAll h (trk h H)
theorem hidT_size (h : Heap) (H : Hp) : (hidT h H).objs.size = h.objs.size := PySem.W.hideAll_size _ _
theorem hidT_get {h : Heap} {H : Hp} {b : Addr} {o : Obj} (e : h.get? b = some o) (n : H b = none) : (hidT h H).get? b = some o :=
  PySem.W.hideAll_get _ e fun hm => by
    have q : (H b).isSome = true := (List.mem_filter.mp hm).2
    rw [n] at q; simp at q
theorem of_hidT {h : Heap} {H : Hp} {b : Addr} {o : Obj} (e : (hidT h H).get? b = some o) : h.get? b = some o ∧ H b = none := by
  have e' : h.get? b = some o := PySem.W.of_hideAll (trk h H) e
  refine ⟨e', ?_⟩
  cases q : H b with
  | none => rfl
  | some x =>
    have hm : b ∈ trk h H := List.mem_filter.mpr ⟨List.mem_range.mpr (Heap.lt_size e'), by simp [q]⟩
    have z : (hidT h H).get? b = none := PySem.W.hideAll_none (trk h H) hm
    rw [z] at e; cases e

end L2

namespace L2
open PySem PySem.Spec PyProof.Rows

/-- the module's facts, over the base: the heap at the law's entry without what is tracked there -/
structure Mod (K : PySem.W.Frag) (mg : Str → Option Value) (base : Heap) : Prop where
  kin : K.In base
  glob : base.Ns mainGlobals mg
  blt : ∃ mb, base.Ns builtinsNs mb ∧ ∀ x : Str, x ≠ "__name__" → mb x = bootBuiltins x
  nolimit : base.NoLimit
  seer : base.NoSeer

/-- the context: a def's body (or a comprehension's block) running. base: fixed through the whole law; s₀, H₀: the entry; outer: the frames whose slots others may change (a def's callers); stack: all frames that run;
   ex: iterators that were made ahead of the entry and are walked here (a comprehension's); fn: the names whose cells were made at the entry (a def: all; a comprehension's block: its own); calm: not within an except suite; pn: pins that every state bears; xe: what is wanted of an exception that leaves the code -/
structure Cx where
  prog : Program
  w : World
  K : PySem.W.Frag
  mg : Str → Option Value
  base : Heap
  A : Around
  N : List Str
  s_0 : Shared
  H_0 : Hp
  env : Env
  outer : List Env
  stack : List Env
  ex : List Addr
  fn : Str → Bool
  calm : Bool
  pn : List (Addr × Obj)
  xe : Value → Shared → Prop
/-- the callers' frames -/
def frs (l : List Env) : List Addr := l.filterMap (·.frame)
abbrev Cx.fs (X : Cx) : List Addr := frs X.outer

def Vis (sc : Scope) (x : Str) : Prop := sc.names.lookup x = some .local ∨ sc.names.lookup x = some .cell ∨ sc.names.lookup x = some .free
def Loc (sc : Scope) (x : Str) : Prop := sc.names.lookup x = some .local ∨ sc.names.lookup x = some .cell
def Look (env : Env) (h : Heap) (m : Str → Option Value) (x : Str) (u : Value) : Prop :=
  (env.kindOf x = some .local ∧ m x = some u) ∨ ((env.kindOf x = some .cell ∨ env.kindOf x = some .free) ∧ ∃ c, env.cells.lookup x = some c ∧ h.IsCell c (some u))

structure Cx.Ok (X : Cx) : Prop where
  mod : Mod X.K X.mg X.base
  kind : X.env.scope.kind = .function
  glob : X.env.globals = mainGlobals
  blt : X.env.builtins = builtinsNs
  above : X.s_0.heap.objs.size ≤ X.env.locals
  inj : ∀ x y c, X.env.cells.lookup x = some c → X.env.cells.lookup y = some c → x = y
  has : ∀ x, (X.env.kindOf x = some .cell ∨ X.env.kindOf x = some .free) → ∃ c, X.env.cells.lookup x = some c
  cab : ∀ x c, X.fn x = true → X.env.cells.lookup x = some c → X.s_0.heap.objs.size ≤ c
  hd : X.calm = true → X.A.handled = none
  frames : X.A.frames = some X.stack
  stk : X.stack = X.outer ∨ (X.stack = X.env :: X.outer ∧ X.env.frame = some X.env.locals)
  exf : ∀ b ∈ X.ex, b ≠ X.env.locals ∧ ∀ x c, X.env.cells.lookup x = some c → c ≠ b
  bs : ∀ b o, X.base.get? b = some o → X.s_0.heap.get? b = some o ∧ X.H_0 b = none
  bsz : X.base.objs.size ≤ X.s_0.heap.objs.size
  noex : ∀ b o, X.base.get? b = some o → b ∉ X.ex
  exfs : ∀ b ∈ X.ex, b ∉ X.fs
  funs : X.s_0.heap.FunFrames X.base X.outer
  frf : ∀ b ∈ X.fs, X.H_0 b = none

structure Inv (X : Cx) (pins : List (Addr × Obj)) (σ : List (Option V)) (H : Hp) (s : Shared) : Prop where
  ok : X.Ok
  os : s.os = X.s_0.os
  bare : AllBare s.gens
  base : Un X.fs X.ex X.H_0 H X.s_0.heap s.heap
  loc : ∃ m, s.heap.Ns X.env.locals m ∧ ∀ (i : Nat) (x : Str) (v : V), X.N[i]? = some x → σ[i]? = some (some v) → Vis X.env.scope x → ∃ u, RelV v u ∧ Look X.env s.heap m x u
  cell : ∀ x c, X.env.cells.lookup x = some c → ∃ v, s.heap.IsCell c v
  free : H X.env.locals = none
  freeC : ∀ x c, X.env.cells.lookup x = some c → H c = none
  pin : ∀ p ∈ X.pn ++ pins, s.heap.get? p.1 = some p.2 ∧ H p.1 = none ∧ p.1 ≠ X.env.locals ∧ p.1 ∉ X.fs ∧ ∀ v, p.2.data ≠ .cell v
  hok : HOk X.prog X.w H s.heap
  len : σ.length = X.N.length

section
variable {X : Cx} {pins : List (Addr × Obj)} {σ : List (Option V)} {H H' : Hp} {s : Shared} {h' : Heap}

theorem Cx.Ok.nofr (ok : X.Ok) {b : Addr} {o : Obj} (e : X.base.get? b = some o) : b ∉ X.fs := fun hb => by
  have := (ok.funs.mem hb).1
  rw [e] at this; cases this
theorem Inv.bs (I : Inv X pins σ H s) : ∀ b o, X.base.get? b = some o → s.heap.get? b = some o ∧ H b = none := fun b o e =>
  ⟨I.base.keep b o (I.ok.bs b o e).1 (I.ok.bs b o e).2 (I.ok.nofr e) (I.ok.noex b o e), I.base.free b o (I.ok.bs b o e).1 (I.ok.bs b o e).2 (I.ok.noex b o e)⟩
theorem Inv.bk (I : Inv X pins σ H s) : ∀ b o, X.base.get? b = some o → s.heap.get? b = some o := fun b o e => (I.bs b o e).1
theorem Inv.mod (I : Inv X pins σ H s) : Mod X.K X.mg X.base := I.ok.mod
theorem Inv.kIn (I : Inv X pins σ H s) : X.K.In s.heap := I.ok.mod.kin.keeps I.bk
theorem Inv.nolimit (I : Inv X pins σ H s) : s.heap.NoLimit := I.ok.mod.nolimit.keeps I.bk
theorem Inv.seer (I : Inv X pins σ H s) : s.heap.NoSeer := I.ok.mod.seer.keeps I.bk
theorem Inv.lt (I : Inv X pins σ H s) : X.env.locals < s.heap.objs.size := let ⟨_, hn, _⟩ := I.loc; hn.lt
theorem Inv.sz (I : Inv X pins σ H s) : X.s_0.heap.objs.size ≤ s.heap.objs.size := Nat.le_trans I.ok.above (Nat.le_of_lt I.lt)
theorem Inv.nofs (I : Inv X pins σ H s) {a : Addr} (h : s.heap.objs.size ≤ a) : a ∉ X.fs := fun hb => by
  obtain ⟨_, o, ho, _⟩ := I.ok.funs.mem hb
  exact absurd (Nat.lt_of_lt_of_le (Heap.lt_size ho) (Nat.le_trans I.sz h)) (Nat.lt_irrefl _)
theorem Inv.cne (I : Inv X pins σ H s) : ∀ x c, X.env.cells.lookup x = some c → c ≠ X.env.locals := fun x c e z => by
  obtain ⟨v, o, ho, hd⟩ := I.cell x c e
  obtain ⟨m, ⟨o', es, ep, ho', hd', _⟩, _⟩ := I.loc
  rw [z, ho'] at ho; cases ho; rw [hd'] at hd; cases hd
theorem Inv.funs (I : Inv X pins σ H s) : s.heap.FunFrames X.base X.outer := by
  have all : ∀ (l : List Env), (∀ b ∈ frs l, b ∈ X.fs) → X.s_0.heap.FunFrames X.base l → s.heap.FunFrames X.base l := by
    intro l
    induction l with
    | nil => intro _ _; trivial
    | cons env r ih =>
      intro hs hl
      obtain ⟨hk, ⟨L, o, hf, hn, ho, hd⟩, hr⟩ := hl
      have hL : L ∈ X.fs := hs L (by unfold frs; rw [List.filterMap_cons, hf]; exact List.mem_cons_self)
      obtain ⟨sl, e⟩ := I.base.slot L o ho (I.ok.frf L hL) hL fun z => I.ok.exfs L z hL
      exact ⟨hk, ⟨L, _, hf, hn, e, hd⟩, ih (fun b hb => hs b (by unfold frs; rw [List.filterMap_cons, hf]; exact List.mem_cons_of_mem _ hb)) hr⟩
  exact all X.outer (fun _ hb => hb) I.ok.funs

/-- the frames that run, for a call -/
theorem Inv.stack (I : Inv X pins σ H s) : s.heap.FunFrames X.base X.stack := by
  rcases I.ok.stk with e | ⟨e, hf⟩
  · rw [e]; exact I.funs
  · rw [e]
    obtain ⟨m, hn, _⟩ := I.loc
    refine .cons (by rw [I.ok.kind]; decide) hf hn ?_ I.funs
    exact Heap.get?_none_of_le (Nat.le_trans I.ok.bsz I.ok.above)
theorem Inv.stkSub (I : Inv X pins σ H s) : ∀ b ∈ frs X.stack, b ∈ X.env.locals :: X.fs := fun b hb => by
  rcases I.ok.stk with e | ⟨e, hf⟩
  · rw [e] at hb; exact List.mem_cons_of_mem _ hb
  · rw [e] at hb
    unfold frs at hb
    rw [List.filterMap_cons, hf] at hb
    exact hb
theorem Inv.stkFree (I : Inv X pins σ H s) : ∀ b ∈ frs X.stack, H b = none := fun b hb => by
  rcases List.mem_cons.mp (I.stkSub b hb) with e | hb
  · rw [e]; exact I.free
  · obtain ⟨_, o, ho, _⟩ := I.ok.funs.mem hb
    exact I.base.free b o ho (I.ok.frf b hb) fun z => I.ok.exfs b z hb

/-- THE STEP: the untracked objects but the frame and the records at ch are kept (the callers' frames up to slots), the frame's map is kept, the new abstract heap is held -/
theorem Inv.step {g' : Array GenState} {t' : Nat} {d' : Drawn} {ch : List Addr} (I : Inv X pins σ H s)
    (hch : ∀ b ∈ ch, (b ∈ X.ex ∨ X.s_0.heap.objs.size ≤ b) ∧ b ≠ X.env.locals ∧ (∀ x c, X.env.cells.lookup x = some c → c ≠ b) ∧ ∀ p ∈ X.pn ++ pins, p.1 ≠ b)
    (keep : ∀ b o, b ≠ X.env.locals → b ∉ X.fs → b ∉ ch → s.heap.get? b = some o → H b = none → h'.get? b = some o)
    (slot : ∀ b o, b ≠ X.env.locals → b ∈ X.fs → b ∉ ch → s.heap.get? b = some o → H b = none → ∃ sl, h'.get? b = some { o with slots := sl }) (free : ∀ b o, b ∉ ch → s.heap.get? b = some o → H b = none → H' b = none)
    (there : ∀ b o, b ∉ ch → s.heap.get? b = some o → ∃ o', h'.get? b = some o')
    (tups : ∀ b xs, H b = some (.tup xs) → H' b = some (.tup xs)) (frzs : ∀ b o u, H b = some (.frz o u) → H' b = some (.frz o u)) (tbls : ∀ b ps, H b = some (.tbl ps) → ∃ more, H' b = some (.tbl (ps ++ more)))
    (ns : ∀ m, s.heap.Ns X.env.locals m → h'.Ns X.env.locals m) (hok : HOk X.prog X.w H' h') (hg : AllBare g') :
    Inv X pins σ H' { s with heap := h', gens := g', drawn := d', toks := t' } := by
  have neL : ∀ b o, X.s_0.heap.get? b = some o → b ≠ X.env.locals := fun b o e => Nat.ne_of_lt (Nat.lt_of_lt_of_le (Heap.lt_size e) I.ok.above)
  have neC : ∀ b o, X.s_0.heap.get? b = some o → b ∉ X.ex → b ∉ ch := fun b o e hx hb => by
    rcases (hch b hb).1 with z | z
    · exact hx z
    · exact absurd (Nat.lt_of_lt_of_le (Heap.lt_size e) z) (Nat.lt_irrefl _)
  have cellK : ∀ x c, X.env.cells.lookup x = some c → ∀ v, s.heap.IsCell c v → h'.IsCell c v := fun x c e v ⟨o, ho, hd⟩ => by
    have nch : c ∉ ch := fun z => (hch c z).2.2.1 x c e rfl
    by_cases hc : c ∈ X.fs
    · obtain ⟨sl, q⟩ := slot c o (I.cne x c e) hc nch ho (I.freeC x c e)
      exact ⟨_, q, hd⟩
    · exact ⟨o, keep c o (I.cne x c e) hc nch ho (I.freeC x c e), hd⟩
  refine ⟨I.ok, I.os, hg, ⟨fun b o e n hb hx => ?_, fun b o e n hb hx => ?_, fun b o e n hx => ?_, fun b o e hx => ?_, fun b xs e => tups b xs (I.base.tups b xs e), fun b o xs e => frzs b o xs (I.base.frzs b o xs e), fun b ps e => ?_⟩, ?_, fun x c e => ?_, ?_, fun x c e => ?_, fun p hp => ?_, hok, I.len⟩
  · exact keep b o (neL b o e) hb (neC b o e hx) (I.base.keep b o e n hb hx) (I.base.free b o e n hx)
  · obtain ⟨sl, e1⟩ := I.base.slot b o e n hb hx
    obtain ⟨sl', e2⟩ := slot b _ (neL b o e) hb (neC b o e hx) e1 (I.base.free b o e n hx)
    exact ⟨sl', e2⟩
  · obtain ⟨o', e1⟩ := I.base.there b o e hx
    exact free b o' (neC b o e hx) e1 (I.base.free b o e n hx)
  · obtain ⟨o', e1⟩ := I.base.there b o e hx
    exact there b o' (neC b o e hx) e1
  · obtain ⟨m1, e1⟩ := I.base.tbls b ps e
    obtain ⟨m2, e2⟩ := tbls b _ e1
    exact ⟨m1 ++ m2, by rw [e2, Array.append_assoc]⟩
  · obtain ⟨m, hn, hl⟩ := I.loc
    refine ⟨m, ns m hn, fun i x v e1 e2 e3 => ?_⟩
    obtain ⟨u, r, l⟩ := hl i x v e1 e2 e3
    refine ⟨u, r, ?_⟩
    rcases l with l | ⟨k, c, e, z⟩
    · exact .inl l
    · exact .inr ⟨k, c, e, cellK x c e _ z⟩
  · obtain ⟨v, z⟩ := I.cell x c e
    exact ⟨v, cellK x c e v z⟩
  · obtain ⟨m, ⟨o, _, _, ho, _⟩, _⟩ := I.loc
    exact free _ o (fun z => (hch _ z).2.1 rfl) ho I.free
  · obtain ⟨v, o, ho, hd⟩ := I.cell x c e
    exact free c o (fun z => (hch c z).2.2.1 x c e rfl) ho (I.freeC x c e)
  · obtain ⟨e, n, ne, nf, d⟩ := I.pin p hp
    have nch : p.1 ∉ ch := fun z => (hch p.1 z).2.2.2 p hp rfl
    exact ⟨keep p.1 p.2 ne nf nch e n, free p.1 p.2 nch e n, ne, nf, d⟩
/-- .. where the frame's own object is kept too -/
theorem Inv.un {t' : Nat} (I : Inv X pins σ H s) (u : Un X.fs [] H H' s.heap h') (hok : HOk X.prog X.w H' h') : Inv X pins σ H' { s with heap := h', toks := t' } := by
  obtain ⟨m, ⟨o, es, ep, ho, r⟩, _⟩ := id I.loc
  obtain ⟨sl, hL⟩ := u.any ho I.free (by simp)
  exact I.step (g' := s.gens) (d' := s.drawn) (ch := []) (fun _ z => nomatch z) (fun b o _ hb _ e n => u.keep b o e n hb (by simp)) (fun b o _ hb _ e n => u.slot b o e n hb (by simp)) (fun b o _ e n => u.free b o e n (by simp)) (fun b o _ e => u.there b o e (by simp)) u.tups u.frzs u.tbls (fun m' hm => by
    obtain ⟨o', es', ep', ho', r'⟩ := hm
    rw [ho] at ho'; cases ho'
    exact ⟨_, es', ep', hL, r'⟩) hok I.bare
/-- behind a call (or a comprehension's block): the slots of this frame may have changed too, the records at ch may have turned -/
theorem Inv.call {g' : Array GenState} {t' : Nat} {d' : Drawn} {ch : List Addr} (I : Inv X pins σ H s) (u : Un (frs X.stack) ch H H' s.heap h') (hok : HOk X.prog X.w H' h') (hg : AllBare g')
    (hch : ∀ b ∈ ch, (b ∈ X.ex ∨ X.s_0.heap.objs.size ≤ b) ∧ b ≠ X.env.locals ∧ (∀ x c, X.env.cells.lookup x = some c → c ≠ b) ∧ ∀ p ∈ X.pn ++ pins, p.1 ≠ b) :
    Inv X pins σ H' { s with heap := h', gens := g', drawn := d', toks := t' } := by
  obtain ⟨m, ⟨o, es, ep, ho, r⟩, _⟩ := id I.loc
  obtain ⟨sl, hL⟩ := u.any ho I.free fun z => (hch _ z).2.1 rfl
  exact I.step (ch := ch) hch (fun b o hL hb hc e n => u.keep b o e n (fun z => (List.mem_cons.mp (I.stkSub b z)).elim hL hb) hc) (fun b o _ _ hc e n => u.any e n hc) (fun b o hc e n => u.free b o e n hc) (fun b o hc e => u.there b o e hc) u.tups u.frzs u.tbls (fun m' hm => by
    obtain ⟨o', es', ep', ho', r'⟩ := hm
    rw [ho] at ho'; cases ho'
    exact ⟨_, es', ep', hL, r'⟩) hok hg
/-- an untracked record of ours (an iterator) has turned -/
theorem Inv.turned {t' : Nat} {it : Addr} (I : Inv X pins σ H s) (k : ∀ b o, b ≠ it → s.heap.get? b = some o → h'.get? b = some o) (hn : H it = none) (hL : it ≠ X.env.locals)
    (h1 : it ∈ X.ex ∨ X.s_0.heap.objs.size ≤ it) (h2 : ∀ x c, X.env.cells.lookup x = some c → c ≠ it) (h3 : ∀ p ∈ X.pn ++ pins, p.1 ≠ it) : Inv X pins σ H { s with heap := h', toks := t' } := by
  have nit : ∀ b u, H b = some u → b ≠ it := fun b u e z => by rw [z, hn] at e; cases e
  refine I.step (g' := s.gens) (d' := s.drawn) (ch := [it]) (fun b hb => ?_) (fun b o _ _ hc e _ => k b o (fun z => hc (by simp [z])) e) (fun b o _ _ hc e _ => ⟨o.slots, k b o (fun z => hc (by simp [z])) e⟩) (fun _ _ _ _ n => n)
    (fun b o hc e => ⟨o, k b o (fun z => hc (by simp [z])) e⟩) (fun _ _ e => e) (fun _ _ _ e => e) (fun b ps e => ⟨#[], by rw [e]; simp⟩) (fun m hm => ?_) (fun b u e => ?_) I.bare
  · have e : b = it := by simpa using hb
    subst e
    exact ⟨h1, hL, h2, h3⟩
  · obtain ⟨o, es, ep, ho, r⟩ := hm
    exact ⟨o, es, ep, k _ o (Ne.symm hL) ho, r⟩
  · refine (I.hok b u e).stay (fun c v hc q => k c v ?_ q) (fun _ q => q) fun _ _ q => q
    rcases hc with z | z
    · rw [z]; exact nit b u e
    · exact nit c _ z
theorem Inv.tok (I : Inv X pins σ H s) (t : Nat) : Inv X pins σ H { s with toks := t } := I.un (h' := s.heap) (t' := t) Un.refl I.hok
/-- all objects kept -/
theorem Inv.kept {t' : Nat} (I : Inv X pins σ H s) (k : ∀ b u, s.heap.get? b = some u → h'.get? b = some u) : Inv X pins σ H { s with heap := h', toks := t' } := I.un (Un.kept k) (I.hok.kept k)
/-- a new object laid and tracked -/
theorem Inv.laid {a : Addr} {o : HO} {t' : Nat} (I : Inv X pins σ H s) (k : ∀ b u, s.heap.get? b = some u → h'.get? b = some u) (hp : s.heap.objs.size ≤ a) (new : ObjOk X.prog X.w (upd H a o) h' a o) :
    Inv X pins σ (upd H a o) { s with heap := h', toks := t' } := I.un (Un.laid k hp (I.hok.fresh hp)) (I.hok.laid k hp new)
/-- an object written -/
theorem Inv.write {x e : Addr} {o : HO} {t' : Nat} (I : Inv X pins σ H s) (mu : Mut (H x)) (he : e = x ∨ H e = some (.own x)) (k : ∀ b u, b ≠ e → s.heap.get? b = some u → h'.get? b = some u) (heo : ∃ u, h'.get? e = some u)
    (new : ObjOk X.prog X.w (upd H x o) h' x o) : Inv X pins σ (upd H x o) { s with heap := h', toks := t' } := I.un (Un.write mu he k heo) (I.hok.write mu he k heo new)
/-- forgetting slots, pins -/
theorem Inv.weak {σ' : List (Option V)} (I : Inv X pins σ H s) (hl : σ'.length = σ.length) (w : ∀ (i : Nat) v, σ'[i]? = some (some v) → σ[i]? = some (some v)) : Inv X pins σ' H s :=
  ⟨I.ok, I.os, I.bare, I.base, let ⟨m, hn, hl'⟩ := I.loc; ⟨m, hn, fun i x v e1 e2 e3 => hl' i x v e1 (w i v e2) e3⟩, I.cell, I.free, I.freeC, I.pin, I.hok, hl.trans I.len⟩
theorem Inv.pins_of {pins' : List (Addr × Obj)} (I : Inv X pins σ H s) (h : ∀ p ∈ pins', s.heap.get? p.1 = some p.2 ∧ H p.1 = none ∧ p.1 ≠ X.env.locals ∧ p.1 ∉ X.fs ∧ ∀ v, p.2.data ≠ .cell v) : Inv X pins' σ H s :=
  ⟨I.ok, I.os, I.bare, I.base, I.loc, I.cell, I.free, I.freeC, fun p hp => (List.mem_append.mp hp).elim (fun z => I.pin p (List.mem_append_left _ z)) (h p), I.hok, I.len⟩

theorem nodup_ix {N : List Str} (hN : N.Nodup) {i j : Nat} {x : Str} (a : N[i]? = some x) (b : N[j]? = some x) : i = j := by
  obtain ⟨h1, e1⟩ := List.getElem?_eq_some_iff.mp a
  obtain ⟨h2, e2⟩ := List.getElem?_eq_some_iff.mp b
  exact (List.getElem_inj hN).mp (e1.trans e2.symm)

/-- a name is stored; what changed -/
theorem store_ok2 {M : Model} {A : Around} {E : Value → Shared → Prop} {i : Nat} {x : Str} {v : V} {u : Value} {Q : Unit → Shared → Prop} (I : Inv X pins σ H s) (hN : X.N.Nodup) (hi : X.N[i]? = some x) (hx : Loc X.env.scope x) (r : RelV v u)
    (h : ∀ s', Inv X pins (σ.set i (some v)) H s' → (∃ a, Heap.SameBut a s.heap s'.heap ∧ (a = X.env.locals ∨ X.env.cells.lookup x = some a)) → Q () s') (hf : X.fn x = true ∨ X.env.scope.names.lookup x = some .local := by first | exact .inl rfl | exact .inr rfl | assumption) : wpAny M A (storeName X.env x u) Q E s := by
  obtain ⟨m, hn, hl⟩ := id I.loc
  have hcls : (X.env.scope.kind == .class || (X.env.scope.kind == .module && X.env.locals != X.env.globals)) = false := by rw [I.ok.kind]; rfl
  have hiσ : i < σ.length := by rw [I.len]; exact (List.getElem?_eq_some_iff.mp hi).1
  have cne := I.cne
  have tracked : ∀ {a : Addr} {h' : Heap}, (∃ o, s.heap.get? a = some o ∧ H a = none) → Heap.SameBut a s.heap h' → HOk X.prog X.w H h' := fun {a h'} ha hs b ob e => by
    obtain ⟨_, _, hfree⟩ := ha
    refine (I.hok b ob e).stay (fun c w' hc q => (hs.2 c ?_).trans q) (fun _ q => q) fun _ _ q => q
    rintro rfl
    rcases hc with rfl | hc
    · rw [hfree] at e; cases e
    · rw [hfree] at hc; cases hc
  rcases hx with hk | hk
  · refine wpAny_storeName_local hk hn (fun h' hn' hs => ?_) hcls
    obtain ⟨oL, _, _, hoL, _⟩ := id hn
    refine h _ ⟨I.ok, I.os, I.bare, ⟨fun b o e n hb hx => ?_, fun b o e n hb hx => ?_, I.base.free, fun b o e hx => ?_, I.base.tups, I.base.frzs, I.base.tbls⟩, ⟨_, hn', fun j y v' e1 e2 e3 => ?_⟩, fun y c e => ?_, I.free, I.freeC, fun p hp => ?_, tracked ⟨oL, hoL, I.free⟩ hs, by simpa using I.len⟩ ⟨_, hs, .inl rfl⟩
    · exact (hs.2 b (Nat.ne_of_lt (Nat.lt_of_lt_of_le (Heap.lt_size e) I.ok.above))).trans (I.base.keep b o e n hb hx)
    · obtain ⟨sl, e1⟩ := I.base.slot b o e n hb hx
      exact ⟨sl, (hs.2 b (Nat.ne_of_lt (Nat.lt_of_lt_of_le (Heap.lt_size e) I.ok.above))).trans e1⟩
    · obtain ⟨o', e1⟩ := I.base.there b o e hx
      exact ⟨o', (hs.2 b (Nat.ne_of_lt (Nat.lt_of_lt_of_le (Heap.lt_size e) I.ok.above))).trans e1⟩
    · by_cases hj : j = i
      · subst hj
        rw [hi] at e1; cases e1
        rw [List.getElem?_set_self hiσ] at e2
        cases e2
        exact ⟨u, r, .inl ⟨hk, by simp⟩⟩
      · rw [List.getElem?_set_ne (Ne.symm hj)] at e2
        obtain ⟨u', r', q⟩ := hl j y v' e1 e2 e3
        refine ⟨u', r', ?_⟩
        rcases q with ⟨k, e⟩ | ⟨k, c, e, z⟩
        · refine .inl ⟨k, ?_⟩
          have : y ≠ x := fun e => hj (nodup_ix hN e1 (e ▸ hi))
          simp [this, e]
        · exact .inr ⟨k, c, e, z.sameBut hs (cne y c e)⟩
    · obtain ⟨w', z⟩ := I.cell y c e
      exact ⟨w', z.sameBut hs (cne y c e)⟩
    · obtain ⟨e, n, ne, nf, d⟩ := I.pin p hp
      exact ⟨(hs.2 p.1 ne).trans e, n, ne, nf, d⟩
  · have hfn : X.fn x = true := by
      rcases hf with z | z
      · exact z
      · rw [z] at hk; cases hk
    obtain ⟨c, hc⟩ := I.ok.has x (.inl hk)
    obtain ⟨w', z⟩ := I.cell x c hc
    refine wpAny_storeName_cell I.ok.kind hk hc z (fun h' hc' hs => ?_)
    obtain ⟨oc, hoc, hocd⟩ := id z
    refine h { s with heap := h' } ⟨I.ok, I.os, I.bare, ⟨fun b o e n hb hx => ?_, fun b o e n hb hx => ?_, I.base.free, fun b o e hx => ?_, I.base.tups, I.base.frzs, I.base.tbls⟩, ⟨m, hn.sameBut hs (Ne.symm (cne x c hc)), fun j y v' e1 e2 e3 => ?_⟩, fun y c' e => ?_, I.free, I.freeC, fun p hp => ?_, tracked ⟨oc, hoc, I.freeC x c hc⟩ hs, by simpa using I.len⟩ ⟨c, hs, .inr hc⟩
    · exact (hs.2 b (Nat.ne_of_lt (Nat.lt_of_lt_of_le (Heap.lt_size e) (I.ok.cab x c hfn hc)))).trans (I.base.keep b o e n hb hx)
    · obtain ⟨sl, e1⟩ := I.base.slot b o e n hb hx
      exact ⟨sl, (hs.2 b (Nat.ne_of_lt (Nat.lt_of_lt_of_le (Heap.lt_size e) (I.ok.cab x c hfn hc)))).trans e1⟩
    · obtain ⟨o', e1⟩ := I.base.there b o e hx
      exact ⟨o', (hs.2 b (Nat.ne_of_lt (Nat.lt_of_lt_of_le (Heap.lt_size e) (I.ok.cab x c hfn hc)))).trans e1⟩
    · by_cases hj : j = i
      · subst hj
        rw [hi] at e1; cases e1
        rw [List.getElem?_set_self hiσ] at e2
        cases e2
        exact ⟨u, r, .inr ⟨.inl hk, c, hc, hc'⟩⟩
      · rw [List.getElem?_set_ne (Ne.symm hj)] at e2
        obtain ⟨u', r', q⟩ := hl j y v' e1 e2 e3
        refine ⟨u', r', ?_⟩
        rcases q with q | ⟨k, c', e, z'⟩
        · exact .inl q
        · refine .inr ⟨k, c', e, z'.sameBut hs ?_⟩
          rintro rfl
          exact hj (nodup_ix hN e1 (I.ok.inj _ _ _ e hc ▸ hi))
    · by_cases hcc : c' = c
      · subst hcc; exact ⟨_, hc'⟩
      · obtain ⟨w2, z2⟩ := I.cell y c' e
        exact ⟨w2, z2.sameBut hs hcc⟩
    · obtain ⟨e, n, ne, nf, d⟩ := I.pin p hp
      refine ⟨(hs.2 p.1 ?_).trans e, n, ne, nf, d⟩
      intro q
      rw [q, hoc] at e
      have q' : oc = p.2 := Option.some.inj e
      exact d w' (by rw [← q']; exact hocd)
theorem store_ok {M : Model} {A : Around} {E : Value → Shared → Prop} {i : Nat} {x : Str} {v : V} {u : Value} {Q : Unit → Shared → Prop} (I : Inv X pins σ H s) (hN : X.N.Nodup) (hi : X.N[i]? = some x) (hx : Loc X.env.scope x) (r : RelV v u)
    (h : ∀ s', Inv X pins (σ.set i (some v)) H s' → Q () s') (hf : X.fn x = true ∨ X.env.scope.names.lookup x = some .local := by first | exact .inl rfl | exact .inr rfl | assumption) : wpAny M A (storeName X.env x u) Q E s :=
  store_ok2 I hN hi hx r (fun s' I' _ => h s' I') hf
/-- behind a call or a block, the state as it is -/
theorem Inv.call' {s' : Shared} {ch : List Addr} (I : Inv X pins σ H s) (ho : s'.os = s.os) (u : Un (frs X.stack) ch H H' s.heap s'.heap) (hok : HOk X.prog X.w H' s'.heap) (hg : AllBare s'.gens)
    (hch : ∀ b ∈ ch, (b ∈ X.ex ∨ X.s_0.heap.objs.size ≤ b) ∧ b ≠ X.env.locals ∧ (∀ x c, X.env.cells.lookup x = some c → c ≠ b) ∧ ∀ p ∈ X.pn ++ pins, p.1 ≠ b) : Inv X pins σ H' s' := by
  obtain ⟨h', g', d', t', o'⟩ := s'
  have e : o' = s.os := ho
  subst e
  exact I.call (g' := g') (t' := t') (d' := d') u hok hg hch
end

/-! ### the judgements -/
/-- an exception: its class, its own dict's address (where it has one), the abstract heap behind it -/
abbrev XK := Value → Option Addr → Hp → Prop
abbrev St := List (Option V)
abbrev VK := V → Hp → Prop
/-- an expression's reading; a test's; an argument list's -/
abbrev TE := St → Hp → VK → Prop
abbrev TT := St → Hp → (Bool → Hp → Prop) → Prop
abbrev TA := St → Hp → (List V → Hp → Prop) → Prop
/-- what is wanted behind a statement -/
structure Ends where
  nx : St → Hp → Prop
  rt : VK
  bk : St → Hp → Prop := fun _ _ => False
  ct : St → Hp → Prop := fun _ _ => False
abbrev TS := Ends → St → Hp → Prop

def EP (X : Cx) (pins : List (Addr × Obj)) (σ : St) (Q : VK) (u : Value) (s' : Shared) : Prop := ∃ v H', Inv X pins σ H' s' ∧ RelV v u ∧ Q v H'
def TP (X : Cx) (pins : List (Addr × Obj)) (σ : St) (Q : Bool → Hp → Prop) (b : Bool) (s' : Shared) : Prop := ∃ H', Inv X pins σ H' s' ∧ Q b H'
def AP (X : Cx) (pins : List (Addr × Obj)) (σ : St) (Q : List V → Hp → Prop) (us : List Value) (s' : Shared) : Prop := ∃ vs H', Inv X pins σ H' s' ∧ Vals vs us ∧ Q vs H'
def SP (X : Cx) (pins : List (Addr × Obj)) (D : Ends) (f : Flow) (s' : Shared) : Prop :=
  match f with
  | .next => ∃ σ' H', Inv X pins σ' H' s' ∧ D.nx σ' H'
  | .brk => ∃ σ' H', Inv X pins σ' H' s' ∧ D.bk σ' H'
  | .cont => ∃ σ' H', Inv X pins σ' H' s' ∧ D.ct σ' H'
  | .ret u => ∃ v σ' H', Inv X pins σ' H' s' ∧ RelV v u ∧ D.rt v H'

def PE (X : Cx) (e : Expr) (t : TE) : Prop :=
  ∀ (pins : List (Addr × Obj)) (s : Shared) (σ : St) (H : Hp) (Q : VK), Inv X pins σ H s → t σ H Q → wpAny (model X.prog X.w) X.A (eval e X.env) (EP X pins σ Q) X.xe s
def PT (X : Cx) (e : Expr) (t : TT) : Prop :=
  ∀ (pins : List (Addr × Obj)) (s : Shared) (σ : St) (H : Hp) (Q : Bool → Hp → Prop), Inv X pins σ H s → t σ H Q → wpAny (model X.prog X.w) X.A (isTrue e X.env (eval e X.env)) (TP X pins σ Q) X.xe s
/-- a test whatever its 'whole' is (and, or) -/
def PW (X : Cx) (e : Expr) (t : TT) : Prop :=
  ∀ (whole : Sem Value) (pins : List (Addr × Obj)) (s : Shared) (σ : St) (H : Hp) (Q : Bool → Hp → Prop), Inv X pins σ H s → t σ H Q → wpAny (model X.prog X.w) X.A (isTrue e X.env whole) (TP X pins σ Q) X.xe s
theorem PW.pt {X : Cx} {e : Expr} {t : TT} (h : PW X e t) : PT X e t := h _
/-- an argument list (no star), from the left -/
def PA (X : Cx) (es : List Expr) (t : TA) : Prop :=
  ∀ (pos : Pos) (pins : List (Addr × Obj)) (s : Shared) (σ : St) (H : Hp) (Q : List V → Hp → Prop), Inv X pins σ H s → t σ H Q → wpAny (model X.prog X.w) X.A (spliced (backTo pos (starEach es X.env))) (AP X pins σ Q) X.xe s
def PS (X : Cx) (st : Stmt) (t : TS) : Prop :=
  ∀ (pins : List (Addr × Obj)) (s : Shared) (σ : St) (H : Hp) (D : Ends), Inv X pins σ H s → t D σ H → wpAny (model X.prog X.w) X.A (exec st X.env) (SP X pins D) X.xe s
def PSs (X : Cx) (st : List Stmt) (t : TS) : Prop :=
  ∀ (pins : List (Addr × Obj)) (s : Shared) (σ : St) (H : Hp) (D : Ends), Inv X pins σ H s → t D σ H → wpAny (model X.prog X.w) X.A (execs st X.env) (SP X pins D) X.xe s
/-- weaken the end -/
theorem thn {α : Type} {t : Sem α} {Q Q' : α → Shared → Prop} {M : Model} {A : Around} {E : Value → Shared → Prop} {s : Shared} (h : wpAny M A t Q E s) (hQ : ∀ a s, Q a s → Q' a s) : wpAny M A t Q' E s := wpAny_mono h hQ fun _ _ x => x
end L2

namespace L2
open PySem PySem.Spec PyProof.Rows
section
variable {X : Cx}

/-! ### names and constants -/
def tVar (i : Nat) : TE := fun σ H Q => ∃ v, σ[i]? = some (some v) ∧ Q v H
def tC (v : V) : TE := fun _ H Q => Q v H
theorem pe_var {i : Nat} {x : Str} {pos : Pos} (hN : X.N[i]? = some x) (hv : Vis X.env.scope x) (hd : (x == ("__debug__" : Str)) = false := by decide) (hcd : (x == ("__classdict__" : Str)) = false := by decide) : PE X (.Name x pos) (tVar i) := by
  intro pins s σ H Q I h
  obtain ⟨v, e, h⟩ := h
  obtain ⟨m, hn, hl⟩ := I.loc
  obtain ⟨u, r, l⟩ := hl i x v hN e hv
  have fin : EP X pins σ Q u s := ⟨v, H, I, r, h⟩
  rcases l with ⟨hk, hm⟩ | ⟨hk, c, hc, hcell⟩
  · exact wpAny_Name (wpAny_loadName_local I.ok.kind hk hn hm fin) hd
  · rcases hk with hk | hk
    · exact wpAny_Name (wpAny_loadName_cell I.ok.kind hk hc hcell fin) hd
    · exact wpAny_Name (wpAny_loadName_free I.ok.kind hk hc hcell fin hcd) hd
theorem pe_int {i j pos} : PE X (.Constant (.int i) j pos) (tC (.int i)) := fun _ _ _ H _ I h => wpAny_Constant_int ⟨.int i, H, I.tok _, ⟨_, rfl⟩, h⟩
/-- a global name of the def -/
def Gl (X : Cx) (x : Str) : Prop := X.env.kindOf x = some .globalImplicit
theorem ld_glob {E : Value → Shared → Prop} {pins : List (Addr × Obj)} {s : Shared} {σ : St} {H : Hp} {x : Str} {u : Value} {pos : Pos} {Q : Value → Shared → Prop} (I : Inv X pins σ H s) (hg : Gl X x) (hm : X.mg x = some u) (h : Q u s)
    (hd : (x == ("__debug__" : Str)) = false := by decide) : wpAny (model X.prog X.w) X.A (eval (.Name x pos) X.env) Q E s :=
  Calls.Name_function_global I.ok.kind hg (Calls.loadGlobal_global (by rw [I.ok.glob]; exact I.mod.glob.keeps I.bk) hm h) hd
theorem ld_blt {E : Value → Shared → Prop} {pins : List (Addr × Obj)} {s : Shared} {σ : St} {H : Hp} {x : Str} {u : Value} {pos : Pos} {Q : Value → Shared → Prop} (I : Inv X pins σ H s) (hg : Gl X x) (hm : X.mg x = none) (hv : bootBuiltins x = some u) (h : Q u s)
    (hn : x ≠ "__name__" := by decide) (hd : (x == ("__debug__" : Str)) = false := by decide) : wpAny (model X.prog X.w) X.A (eval (.Name x pos) X.env) Q E s := by
  obtain ⟨mb, h1, h2⟩ := I.mod.blt
  exact Calls.Name_function_global I.ok.kind hg (Calls.loadGlobal_builtin (by rw [I.ok.glob]; exact I.mod.glob.keeps I.bk) hm (by rw [I.ok.blt]; exact h1.keeps I.bk) ((h2 x hn).trans hv) h) hd
/-- a module's constant, a class, a function, as a value -/
theorem pe_glob {x : Str} {v : V} {u : Value} {pos : Pos} (hg : Gl X x) (hm : X.mg x = some u) (r : RelV v u) (hd : (x == ("__debug__" : Str)) = false := by decide) : PE X (.Name x pos) (tC v) :=
  fun _ _ _ H _ I h => ld_glob I hg hm ⟨v, H, I, r, h⟩ hd
variable {a b : Expr} {ta tb : TE} {pos : Pos}
/-- a comparison as a value, as a test -/
def tB (t : TE) : TT := fun σ H Q => t σ H fun x H1 => ∃ c, x = .bl c ∧ Q c H1
/-- an expression whose value is a bool, as a test -/
theorem pt_val {e : Expr} {t : TE} (h : PE X e t) (he : ∀ whole, isTrue e X.env whole = (do let v ← whole; standAt e.pos; holding [v] (truthy v)) := by intro _; rfl) : PT X e (tB t) := by
  intro pins s σ H Q I hw
  refine isTrue_plain (thn (h pins s σ H _ I hw) fun v s1 ⟨x, H1, I1, r1, q1⟩ => ?_) (he _)
  obtain ⟨d, rfl, q⟩ := q1
  cases r1
  exact wpAny_truthy_bool ⟨H1, I1, q⟩

/-! ### and, or, not -/
variable {tA tB' : TT} {rest : List Expr}
def tAnd (t u : TT) : TT := fun σ H Q => t σ H fun c H1 => if c = true then u σ H1 Q else Q false H1
def tOr (t u : TT) : TT := fun σ H Q => t σ H fun c H1 => if c = true then Q true H1 else u σ H1 Q
def tNot (t : TT) : TT := fun σ H Q => t σ H fun c H1 => Q (!c) H1
theorem pw_and1 (ha : PT X a tA) : PW X (.BoolOp .And [a] pos) tA := by
  intro wh pins s σ H Q I h
  refine isTrue_and (thn (ha pins s σ H Q I h) fun c s1 e => ?_)
  cases c with
  | true => exact isTrue_and_nil e
  | false => exact e
theorem pw_or1 (ha : PT X a tA) : PW X (.BoolOp .Or [a] pos) tA := by
  intro wh pins s σ H Q I h
  refine isTrue_or (thn (ha pins s σ H Q I h) fun c s1 e => ?_)
  cases c with
  | false => exact isTrue_or_nil e
  | true => exact e
theorem pw_and (ha : PT X a tA) (hb : PW X (.BoolOp .And (b :: rest) pos) tB') : PW X (.BoolOp .And (a :: b :: rest) pos) (tAnd tA tB') := by
  intro wh pins s σ H Q I h
  refine isTrue_and (thn (ha pins s σ H _ I h) fun c s1 ⟨H1, I1, q1⟩ => ?_)
  cases c with
  | true => exact hb wh pins s1 σ H1 Q I1 q1
  | false => exact ⟨H1, I1, q1⟩
theorem pw_or (ha : PT X a tA) (hb : PW X (.BoolOp .Or (b :: rest) pos) tB') : PW X (.BoolOp .Or (a :: b :: rest) pos) (tOr tA tB') := by
  intro wh pins s σ H Q I h
  refine isTrue_or (thn (ha pins s σ H _ I h) fun c s1 ⟨H1, I1, q1⟩ => ?_)
  cases c with
  | true => exact ⟨H1, I1, q1⟩
  | false => exact hb wh pins s1 σ H1 Q I1 q1
theorem pt_not (ha : PT X a tA) : PT X (.UnaryOp .Not a pos) (tNot tA) := by
  intro pins s σ H Q I h
  exact isTrue_not (ha pins s σ H (fun c H1 => Q (!c) H1) I h)
/-- .. as values (bools) -/
def tAndV (ta tb : TE) : TE := fun σ H Q => ta σ H fun x H1 => ∃ c, x = .bl c ∧ if c = true then tb σ H1 Q else Q (.bl false) H1
theorem pe_one {op} {t : TE} (h : PE X a t) : PE X (.BoolOp op [a] pos) t := fun pins s σ H Q I hw => BoolOp_one (h pins s σ H Q I hw)
theorem pe_and (ha : PE X a ta) (hb : PE X (.BoolOp .And (b :: rest) pos) tb) : PE X (.BoolOp .And (a :: b :: rest) pos) (tAndV ta tb) := by
  intro pins s σ H Q I h
  refine BoolOp_and (thn (ha pins s σ H _ I h) fun v s1 ⟨x, H1, I1, r1, q1⟩ => ?_)
  obtain ⟨c, rfl, q1⟩ := q1
  cases r1
  refine wpAny_truthy_bool ?_
  cases c with
  | true => exact hb pins s1 σ H1 Q I1 q1
  | false => exact ⟨.bl false, H1, I1, rfl, q1⟩
/-- a if t else b -/
def tIf (t : TT) (ta tb : TE) : TE := fun σ H Q => t σ H fun c H1 => if c = true then ta σ H1 Q else tb σ H1 Q
theorem pe_ifExp {c : Expr} (hc : PT X c tA) (ha : PE X a ta) (hb : PE X b tb) : PE X (.IfExp c a b pos) (tIf tA ta tb) := by
  intro pins s σ H Q I h
  refine wpAny_IfExp (thn (hc pins s σ H _ I h) fun d s1 ⟨H1, I1, q1⟩ => ?_)
  cases d with
  | true => exact ha pins s1 σ H1 Q I1 q1
  | false => exact hb pins s1 σ H1 Q I1 q1
end
end L2

namespace L2
open PySem PySem.Spec PyProof.Rows

/-! ### a list, a tuple that is read: tracked, frozen, or an object of the module -/
def SqL (K : PySem.W.Frag) (H : Hp) (a : Addr) (xs : List V) : Prop :=
  Rd H a (.lst xs) ∨
    ∃ (o : Obj) (its : Array Value) (n : Nat), K.lookup a = some o ∧ o.cls = .type "list" ∧ o.dict = none ∧ o.data = .seq its n ∧ its.size ≤ sizeLine ∧ Vals xs its.toList
def SqT (K : PySem.W.Frag) (H : Hp) (a : Addr) (xs : List V) : Prop :=
  Rd H a (.tup xs) ∨
    ∃ (o : Obj) (its : Array Value) (n : Nat), K.lookup a = some o ∧ o.cls = .type "tuple" ∧ o.data = .seq its n ∧ its.size ≤ sizeLine ∧ Vals xs its.toList
def absV : Value → Option V
  | .none => some .non
  | .bool b => some (.bl b)
  | .int i _ => some (.int i)
  | .str x _ => some (.str x)
  | .bytes b _ => some (.byt b)
  | .float b _ => some (.flt b)
  | .ref a => some (.ref a)
  | .type n => some (.ty n)
  | _ => none
theorem RelV.abs {x : V} {u : Value} (r : RelV x u) : absV u = some x := by
  cases x with
  | non => cases r; rfl
  | bl _ => cases r; rfl
  | int _ => obtain ⟨t, rfl⟩ := r; rfl
  | str _ => obtain ⟨t, rfl⟩ := r; rfl
  | byt _ => obtain ⟨t, rfl⟩ := r; rfl
  | flt _ => obtain ⟨t, rfl⟩ := r; rfl
  | ref _ => cases r; rfl
  | ty _ => cases r; rfl
theorem RelV.inj {x y : V} {u : Value} (r : RelV x u) (q : RelV y u) : x = y := Option.some.inj (r.abs.symm.trans q.abs)
theorem Vals.inj : ∀ {xs ys : List V} {us : List Value}, Vals xs us → Vals ys us → xs = ys
  | _, _, _, .nil, .nil => rfl
  | _, _, _, .cons r t, .cons r' t' => by rw [r.inj r', Vals.inj t t']
section
variable {X : Cx} {pins : List (Addr × Obj)} {σ : St} {H : Hp} {s : Shared} {a : Addr} {xs ys : List V}
theorem SqL.of {K : PySem.W.Frag} (h : H a = some (.lst xs)) : SqL K H a xs := .inl (.inl h)
theorem SqT.of {K : PySem.W.Frag} (h : H a = some (.tup xs)) : SqT K H a xs := .inl (.inl h)
theorem Inv.list (I : Inv X pins σ H s) (h : SqL X.K H a xs) : ∃ its : List Value, Vals xs its ∧ PlainL s.heap a its.toArray ∧ xs.length ≤ sizeLine := by
  rcases h with h | ⟨o, its, n, hk, hc, hd, hs, hz, r⟩
  · obtain ⟨z, its, n, r, e⟩ := h.ok I.hok
    exact ⟨its, r, ⟨_, n, e, rfl, rfl, rfl⟩, z⟩
  · refine ⟨its.toList, r, ⟨o, n, I.kIn a o hk, hc, hd, by simpa using hs⟩, ?_⟩
    have e := r.length
    simp only [Array.length_toList] at e
    omega
theorem Inv.tuple (I : Inv X pins σ H s) (h : SqT X.K H a xs) : ∃ its : List Value, Vals xs its ∧ IsTup s.heap a its.toArray ∧ xs.length ≤ sizeLine := by
  rcases h with h | ⟨o, its, n, hk, hc, hs, hz, r⟩
  · obtain ⟨z, its, r, p⟩ := h.ok I.hok
    exact ⟨its, r, p, z⟩
  · refine ⟨its.toList, r, ⟨o, I.kIn a o hk, hc, n, by simpa using hs⟩, ?_⟩
    have e := r.length
    simp only [Array.length_toList] at e
    omega
theorem Inv.list_inj (I : Inv X pins σ H s) (h : SqL X.K H a xs) (h' : SqL X.K H a ys) : xs = ys := by
  obtain ⟨its, r, ⟨o, n, e, _, _, d⟩, _⟩ := I.list h
  obtain ⟨its', r', ⟨o', n', e', _, _, d'⟩, _⟩ := I.list h'
  rw [e] at e'; cases e'
  rw [d] at d'
  injection d' with d1 _
  have : its = its' := by simpa using congrArg Array.toList d1
  subst this
  exact r.inj r'
end

/-! ### another wish about exceptions -/
abbrev Cx.wish (X : Cx) (E : Value → Shared → Prop) : Cx := { X with xe := E }
/-- no exception leaves -/
abbrev Cx.nox (X : Cx) : Cx := X.wish fun _ _ => False
theorem Cx.Ok.wish {X : Cx} (ok : X.Ok) (E : Value → Shared → Prop) : (X.wish E).Ok :=
  ⟨ok.mod, ok.kind, ok.glob, ok.blt, ok.above, ok.inj, ok.has, ok.cab, ok.hd, ok.frames, ok.stk, ok.exf, ok.bs, ok.bsz, ok.noex, ok.exfs, ok.funs, ok.frf⟩
theorem Cx.Ok.unwish {X : Cx} {E : Value → Shared → Prop} (ok : (X.wish E).Ok) : X.Ok :=
  ⟨ok.mod, ok.kind, ok.glob, ok.blt, ok.above, ok.inj, ok.has, ok.cab, ok.hd, ok.frames, ok.stk, ok.exf, ok.bs, ok.bsz, ok.noex, ok.exfs, ok.funs, ok.frf⟩
section
variable {X : Cx} {pins : List (Addr × Obj)} {σ : St} {H : Hp} {s : Shared} {E : Value → Shared → Prop}
theorem Inv.wish (I : Inv X pins σ H s) (E : Value → Shared → Prop) : Inv (X.wish E) pins σ H s := ⟨I.ok.wish E, I.os, I.bare, I.base, I.loc, I.cell, I.free, I.freeC, I.pin, I.hok, I.len⟩
theorem Inv.unwish (I : Inv (X.wish E) pins σ H s) : Inv X pins σ H s := ⟨I.ok.unwish, I.os, I.bare, I.base, I.loc, I.cell, I.free, I.freeC, I.pin, I.hok, I.len⟩
theorem SP.unwish {D : Ends} {f : Flow} {s' : Shared} (h : SP (X.wish E) pins D f s') : SP X pins D f s' := by
  cases f with
  | next => obtain ⟨σ', H', I, q⟩ := h; exact ⟨σ', H', I.unwish, q⟩
  | brk => obtain ⟨σ', H', I, q⟩ := h; exact ⟨σ', H', I.unwish, q⟩
  | cont => obtain ⟨σ', H', I, q⟩ := h; exact ⟨σ', H', I.unwish, q⟩
  | ret u => obtain ⟨v, σ', H', I, r, q⟩ := h; exact ⟨v, σ', H', I.unwish, r, q⟩
theorem PSs.nox {st : List Stmt} {t : TS} (h : PSs X.nox st t) : PSs X st t := fun pins s σ H D I hw =>
  wpAny_mono (h pins s σ H D (I.wish _) hw) (fun _ _ q => q.unwish) fun _ _ z => False.elim z
end

/-! ### blocks and small statements -/
section
variable {X : Cx} {st : Stmt} {rest : List Stmt} {t u : TS} {e : Expr} {te : TE} {pos : Pos}
def tNext : TS := fun D σ H => D.nx σ H
def tSeq (t u : TS) : TS := fun D σ H => t { D with nx := u D } σ H
theorem pss_nil : PSs X [] tNext := fun _ _ σ H _ I h => wpAny_execs_nil ⟨σ, H, I, h⟩
theorem pss_cons (h1 : PS X st t) (h2 : PSs X rest u) : PSs X (st :: rest) (tSeq t u) := by
  intro pins s σ H D I h
  refine wpAny_execs_cons (thn (h1 pins s σ H { D with nx := u D } I h) fun f s1 q => ?_)
  cases f with
  | next =>
    obtain ⟨σ', H', I', q⟩ := q
    exact h2 pins s1 σ' H' D I' q
  | ret v => exact q
  | brk => exact q
  | cont => exact q
theorem pss_one (h1 : PS X st t) : PSs X [st] t := by
  intro pins s σ H D I h
  refine wpAny_execs_cons (thn (h1 pins s σ H D I h) fun f s1 q => ?_)
  cases f with
  | next => exact wpAny_execs_nil q
  | ret v => exact q
  | brk => exact q
  | cont => exact q
/-- in a def's body nothing is shown -/
theorem Inv.quiet {pins : List (Addr × Obj)} {σ : St} {H : Hp} {s : Shared} (I : Inv X pins σ H s) : interactive X.env = false := by simp [interactive, I.ok.kind]
/-- an expression whose value is dropped -/
def tDrop (te : TE) : TS := fun D σ H => te σ H fun _ H1 => D.nx σ H1
theorem ps_expr (he : PE X e te) (hs : swapsWith e none pos.line X.env = pure false := by rfl) : PS X (.Expr e pos) (tDrop te) := by
  intro pins s σ H D I h
  exact wpAny_Expr_any (thn (he pins s σ H _ I h) fun v s1 ⟨x, H1, I1, r1, q1⟩ => ⟨σ, H1, I1, q1⟩) I.quiet hs
def tRet (te : TE) : TS := fun D σ H => te σ H D.rt
theorem ps_ret (he : PE X e te) : PS X (.Return (some e) pos) (tRet te) := by
  intro pins s σ H D I h
  exact wpAny_Return_some (thn (he pins s σ H _ I h) fun v s1 ⟨x, H1, I1, r1, q1⟩ => ⟨x, σ, H1, I1, r1, q1⟩)
def tIfS (c : TT) (t u : TS) : TS := fun D σ H => c σ H fun b H1 => if b = true then t D σ H1 else u D σ H1
theorem ps_if {c : Expr} {a b : List Stmt} {tc : TT} (hc : PT X c tc) (ha : PSs X a t) (hb : PSs X b u) : PS X (.If c a b pos) (tIfS tc t u) := by
  intro pins s σ H D I h
  refine wpAny_If (thn (hc pins s σ H _ I h) fun d s1 ⟨H1, I1, q1⟩ => ?_)
  cases d with
  | true => exact ha pins s1 σ H1 D I1 q1
  | false => exact hb pins s1 σ H1 D I1 q1
end

/-! ### targets -/
abbrev TG := V → St → Hp → (St → Hp → Prop) → Prop
def PG (X : Cx) (target : Expr) (t : TG) : Prop :=
  ∀ (pins : List (Addr × Obj)) (s : Shared) (σ : St) (H : Hp) (v : V) (u : Value) (Q : St → Hp → Prop), Inv X pins σ H s → RelV v u → t v σ H Q →
    wpAny (model X.prog X.w) X.A (assign target X.env u) (fun _ s' => ∃ σ' H', Inv X pins σ' H' s' ∧ Q σ' H') X.xe s
/-- a op= b, by values -/
abbrev TIp := V → V → Hp → VK → Prop
def PIp (X : Cx) (op : Operator) (t : TIp) : Prop :=
  ∀ (pins : List (Addr × Obj)) (s : Shared) (σ : St) (H : Hp) (x y : V) (v u : Value) (Q : VK), Inv X pins σ H s → RelV x v → RelV y u → t x y H Q →
    wpAny (model X.prog X.w) X.A (inplaceOp op v u) (EP X pins σ Q) X.xe s
section
variable {X : Cx} {pos : Pos}
def gName (i : Nat) : TG := fun v σ H Q => Q (σ.set i (some v)) H
theorem pg_name {i : Nat} {x : Str} (hN : X.N.Nodup) (hi : X.N[i]? = some x) (hx : Loc X.env.scope x) (hf : X.fn x = true ∨ X.env.scope.names.lookup x = some .local := by first | exact .inl rfl | exact .inr rfl | assumption) : PG X (.Name x pos) (gName i) := by
  intro pins s σ H v u Q I r h
  exact wpAny_assign_Name (store_ok I hN hi hx r (fun s' I' => ⟨_, H, I', h⟩) hf)
/-- target = value -/
def tAsg (te : TE) (g : TG) : TS := fun D σ H => te σ H fun x H1 => g x σ H1 D.nx
/-- name = value -/
theorem ps_set {i : Nat} {x : Str} {e : Expr} {te : TE} {pos' : Pos} (hN : X.N.Nodup) (hi : X.N[i]? = some x) (hx : Loc X.env.scope x) (he : PE X e te) (hs : swapsWith e (some (.Name x pos')) pos.line X.env = pure false := by rfl) (hf : X.fn x = true ∨ X.env.scope.names.lookup x = some .local := by first | exact .inl rfl | exact .inr rfl | assumption) :
    PS X (.Assign [.Name x pos'] e pos) (tAsg te (gName i)) := by
  intro pins s σ H D I h
  refine wpAny_Assign_Name (thn (he pins s σ H _ I h) fun v s1 ⟨y, H1, I1, r1, q1⟩ => ?_) hs
  exact store_ok I1 hN hi hx r1 (fun s2 I2 => ⟨_, H1, I2, q1⟩) hf
/-- name op= e -/
def tAug (i : Nat) (te : TE) (ti : TIp) : TS := fun D σ H => ∃ x, σ[i]? = some (some x) ∧ te σ H fun y H1 => ti x y H1 fun z H2 => D.nx (σ.set i (some z)) H2
theorem ps_aug {i : Nat} {x : Str} {e : Expr} {te : TE} {op : Operator} {ti : TIp} {pos' : Pos} (hN : X.N.Nodup) (hi : X.N[i]? = some x) (hx : Loc X.env.scope x) (he : PE X e te) (ho : PIp X op ti) (hf : X.fn x = true ∨ X.env.scope.names.lookup x = some .local := by first | exact .inl rfl | exact .inr rfl | assumption) :
    PS X (.AugAssign (.Name x pos') op e pos) (tAug i te ti) := by
  intro pins s σ H D I h
  obtain ⟨v, e1, h⟩ := h
  obtain ⟨m, hn, hl⟩ := I.loc
  have vis : Vis X.env.scope x := by rcases hx with k | k; exact .inl k; exact .inr (.inl k)
  obtain ⟨u, r, l⟩ := hl i x v hi e1 vis
  refine wpAny_AugAssign_Name ?_
  have go : wpAny (model X.prog X.w) X.A (eval e X.env) (fun w s₂ => wpAny (model X.prog X.w) X.A (inplaceOp op u w) (fun r s₃ => wpAny (model X.prog X.w) X.A (storeName X.env x r) (fun _ => SP X pins D .next) X.xe s₃) X.xe s₂) X.xe s := by
    refine thn (he pins s σ H _ I h) fun w s1 ⟨y, H1, I1, r1, q1⟩ => ?_
    refine thn (ho pins s1 σ H1 v y u w _ I1 r r1 q1) fun z s2 ⟨zv, H2, I2, r2, q2⟩ => ?_
    exact store_ok I2 hN hi hx r2 (fun s3 I3 => ⟨_, H2, I3, q2⟩) hf
  rcases l with ⟨hk, hm⟩ | ⟨hk, c, hc, hcell⟩
  · exact wpAny_loadName_local I.ok.kind hk hn hm go
  · rcases hk with hk | hk
    · exact wpAny_loadName_cell I.ok.kind hk hc hcell go
    · rcases hx with k | k
      · have : X.env.scope.names.lookup x = some .free := hk
        rw [k] at this; cases this
      · have : X.env.scope.names.lookup x = some .free := hk
        rw [k] at this; cases this
end

/-! ### while -/
section
variable {X : Cx} {pos : Pos}
/-- the invariant W with its measure -/
def tWhile (c : TT) (tb : TS) : TS := fun D σ H => ∃ W : Nat → St → Hp → Prop, (∃ m, W m σ H) ∧ ∀ m σ H, W m σ H →
  c σ H fun b H1 => if b = true then ∃ N : St → Hp → Prop, (∀ σ' H', N σ' H' → ∃ m', m' < m ∧ W m' σ' H') ∧ tb { D with nx := N, ct := N, bk := D.nx } σ H1 else D.nx σ H1
theorem ps_while {c : Expr} {body : List Stmt} {tc : TT} {tb : TS} (hp : PassesOwn (model X.prog X.w) X.A X.env X.xe) (hc : PT X c tc) (hb : PSs X body tb) : PS X (.While c body [] pos) (tWhile tc tb) := by
  intro pins s σ H D I h
  obtain ⟨W, ⟨m0, w0⟩, turn⟩ := h
  refine wpAny_While (codeAny_whileLoop (fun n s' => ∃ σ' H', Inv X pins σ' H' s' ∧ W n σ' H') ?_ m0 ⟨σ, H, I, w0⟩)
  rintro n s1 ⟨σ1, H1, I1, w1⟩
  refine wpAny_passesOwn hp (thn (hc pins s1 σ1 H1 _ I1 (turn n σ1 H1 w1)) fun b s2 ⟨H2, I2, q2⟩ => ?_)
  cases b with
  | true =>
    obtain ⟨N, hN, q2⟩ := q2
    rw [if_pos rfl]
    refine wpAny_passesOwn hp (thn (hb pins s2 σ1 H2 _ I2 q2) fun f s3 q3 => ?_)
    cases f with
    | next =>
      obtain ⟨σ3, H3, I3, n3⟩ := q3
      obtain ⟨m', hm, w3⟩ := hN σ3 H3 n3
      exact ⟨m', hm, σ3, H3, I3, w3⟩
    | cont =>
      obtain ⟨σ3, H3, I3, n3⟩ := q3
      obtain ⟨m', hm, w3⟩ := hN σ3 H3 n3
      exact ⟨m', hm, σ3, H3, I3, w3⟩
    | brk => exact q3
    | ret v => exact q3
  | false =>
    rw [if_neg Bool.false_ne_true]
    exact wpAny_execs_nil ⟨σ1, H2, I2, q2⟩
end

/-! ### what a loop or a comprehension walks -/
/-- at turn i: it yields x (the heap may grow), or it stops -/
structure It where
  go : Nat → Hp → Prop
  yld : Nat → Hp → V → Hp → Prop
  stop : Nat → Hp → Prop
/-- the iterator's own objects may turn: they are not the frame's, not pinned, younger than the entry (or a comprehension's own) -/
def FpOk (X : Cx) (pins : List (Addr × Obj)) (H : Hp) (b : Addr) : Prop :=
  H b = none ∧ b ≠ X.env.locals ∧ b ∉ X.fs ∧ (b ∈ X.ex ∨ X.s_0.heap.objs.size ≤ b) ∧ (∀ x c, X.env.cells.lookup x = some c → c ≠ b) ∧ ∀ p ∈ X.pn ++ pins, p.1 ≠ b
theorem Inv.fpOk {X : Cx} {pins : List (Addr × Obj)} {σ : St} {H H' : Hp} {s : Shared} {b : Addr} (I : Inv X pins σ H s) (hb : s.heap.objs.size ≤ b) (hn : H' b = none) : FpOk X pins H' b := by
  refine ⟨hn, Nat.ne_of_gt (Nat.lt_of_lt_of_le I.lt hb), I.nofs hb, .inr (Nat.le_trans I.sz hb), fun x c e z => ?_, fun p hp z => ?_⟩
  · obtain ⟨v, q⟩ := I.cell x c e
    exact absurd (Nat.lt_of_lt_of_le q.lt (by rw [z]; exact hb)) (Nat.lt_irrefl _)
  · exact absurd (Nat.lt_of_lt_of_le (Heap.lt_size (I.pin p hp).1) (by rw [z]; exact hb)) (Nat.lt_irrefl _)
structure Turn (P : Program) (w : World) (K : PySem.W.Frag) (tg : Expr) (J : It) (fp : List Addr) (it : Addr) (tn : Nat → Heap → Prop) : Prop where
  mem : it ∈ fp
  obj : ∀ i h, tn i h → ∀ b ∈ fp, ∃ o, h.get? b = some o ∧ ∀ v, o.data ≠ .cell v
  keep : ∀ i h h', tn i h → (∀ b ∈ fp, ∀ o, h.get? b = some o → h'.get? b = some o) → tn i h'
  item : ∀ (X : Cx), X.prog = P → X.w = w → X.K = K → X.calm = true → ∀ (i : Nat) (pins : List (Addr × Obj)) (s : Shared) (σ : St) (H : Hp) (E : Value → Shared → Prop), Inv X pins σ H s → (∀ b ∈ fp, FpOk X pins H b) → tn i s.heap → J.go i H →
    wpAny (model P w) X.A (pyNext (.ref it)) (fun r s1 => ∃ u, r = some u ∧
      wpAny (model P w) X.A (letOwnedTupleGo tg (.ref it) u) (fun _ s2 => ∃ x H', Inv X pins σ H' s2 ∧ RelV x u ∧ J.yld i H x H' ∧ tn (i + 1) s2.heap ∧ ∀ b ∈ fp, H' b = none) E s1) E s
  done : ∀ (X : Cx), X.prog = P → X.w = w → X.K = K → X.calm = true → ∀ (i : Nat) (pins : List (Addr × Obj)) (s : Shared) (σ : St) (H : Hp) (E : Value → Shared → Prop), Inv X pins σ H s → (∀ b ∈ fp, FpOk X pins H b) → tn i s.heap → J.stop i H →
    wpAny (model P w) X.A (pyNext (.ref it)) (fun r s1 => r = none ∧ Inv X pins σ H s1) E s
  self : ∀ (A : Around) (i : Nat) (s : Shared) (Q : Value → Shared → Prop) (E : Value → Shared → Prop), tn i s.heap → Q (.ref it) s → wpAny (model P w) A (pyIter (.ref it)) Q E s
abbrev TI := St → Hp → (It → Hp → Prop) → Prop
/-- an iterator has come -/
def PIE (X : Cx) (pins : List (Addr × Obj)) (σ : St) (tg : Expr) (R : It → Hp → Prop) (itv : Value) (s2 : Shared) : Prop :=
  ∃ (it : Addr) (fp : List Addr) (tn : Nat → Heap → Prop) (J : It) (H' : Hp), itv = .ref it ∧ Inv X pins σ H' s2 ∧ Turn X.prog X.w X.K tg J fp it tn ∧ tn 0 s2.heap ∧ (∀ b ∈ fp, FpOk X pins H' b) ∧ R J H'
def PI (X : Cx) (tg iter : Expr) (wi : TI) : Prop :=
  ∀ (pins : List (Addr × Obj)) (s : Shared) (σ : St) (H : Hp) (R : It → Hp → Prop), Inv X pins σ H s → wi σ H R →
    wpAny (model X.prog X.w) X.A (eval iter X.env) (fun v s1 => wpAny (model X.prog X.w) X.A (pyIter v) (PIE X pins σ tg R) X.xe s1) X.xe s

/-- the step ahead of the store is nothing for an iterator that keeps no tuple -/
theorem go_of {M : Model} {A : Around} {E : Value → Shared → Prop} {s : Shared} {tg : Expr} {it : Addr} {u : Value} {o : Obj} {n : String} {vs : Array Value} {Q : Unit → Shared → Prop} (ho : s.heap.get? it = some o) (hc : o.cls = .type n) (hd : o.data = .fields vs)
    (hn : ["enumerate", "zip", "dict_itemiterator", "dict_reverseitemiterator", "odict_iterator", "itertools.zip_longest", "itertools.pairwise"].contains n = false) (hQ : Q () s) : wpAny M A (letOwnedTupleGo tg (.ref it) u) Q E s := by
  unfold letOwnedTupleGo
  cases tg <;> first
    | exact wpAny_pure hQ
    | (cases u <;> first
        | exact wpAny_pure hQ
        | (refine wpAny_bind (wpAny_load ho ?_)
           rw [hc, hd]
           show wpAny M A (if (["enumerate", "zip", "dict_itemiterator", "dict_reverseitemiterator", "odict_iterator", "itertools.zip_longest", "itertools.pairwise"].contains n && vs[0]? == some (rawInt _)) = true then _ else _) Q E s
           rw [if_neg (by intro h; rw [hn, Bool.false_and] at h; cases h)]
           exact wpAny_pure hQ))

/-- lo, lo + 1, .. (n of them) -/
def Itr (lo : Int) (n : Nat) : It := ⟨fun i _ => i < n, fun i H x H' => H' = H ∧ x = .int (lo + i), fun i _ => n ≤ i⟩
theorem turn_range {P : Program} {w : World} {K : PySem.W.Frag} {tg : Expr} (it : Addr) (lo : Int) (n : Nat) : Turn P w K tg (Itr lo n) [it] it (fun i h => IsRangeIter h it (lo + (i : Nat) * 1) ((n : Int) - (i : Nat)) 1) where
  mem := by simp
  obj := fun i h st b hb => by
    have e : b = it := by simpa using hb
    subst e
    exact ⟨_, st, fun v z => by
      have z' : Data.fields _ = Data.cell v := z
      cases z'⟩
  keep := fun i h h' st k => k it (by simp) _ st
  item := by
    intro X hP hw hK hc i pins s σ H E I hf st hg
    subst hP hw hK
    obtain ⟨f0, f1, f2, f3, f4, f5⟩ := hf it (by simp)
    have W := Walks.range (prog := X.prog) (w := X.w) (I.ok.hd hc) it lo 1 n
    refine W.item i s _ _ hg st fun v h' tk hv st' kk => ?_
    obtain ⟨t, rfl⟩ := hv
    have I1 : Inv X pins σ H { s with heap := h', toks := tk } := I.turned (fun b o hb e => kk b o (by simpa using hb) e) f0 f1 f3 f4 f5
    refine ⟨_, rfl, go_of (s := { s with heap := h', toks := tk }) (n := "range_iterator") st' rfl rfl (by decide) ⟨.int (lo + i), H, I1, ⟨t, ?_⟩, ⟨rfl, rfl⟩, st', fun b hb => (hf b hb).1⟩⟩
    rw [Int.mul_one]
  done := by
    intro X hP hw hK hc i pins s σ H E I hf st hg
    subst hP hw hK
    obtain ⟨f0, f1, f2, f3, f4, f5⟩ := hf it (by simp)
    exact wpAny_pyNext_range_end (I.ok.hd hc) st (by have : n ≤ i := hg; omega) fun h' eb => ⟨rfl, I.turned (t' := s.toks) (fun b o hb e => eb b o hb e) f0 f1 f3 f4 f5⟩
  self := fun _ _ _ _ _ st h => wpAny_pyIter_rangeiter st h
end L2

namespace L2
open PySem PySem.Spec PyProof.Rows
section
variable {X : Cx} {tg : Expr}
/-- a range object just made, walked -/
theorem range_it {pins : List (Addr × Obj)} {σ : St} {H : Hp} {s : Shared} {R : It → Hp → Prop} {E : Value → Shared → Prop} {lo hi : Int} {t u v : Tok} {tk : Nat} (I : Inv X pins σ H s) (h1 : -(2 ^ 62) ≤ lo) (h2 : lo < 2 ^ 62) (h3 : -(2 ^ 62) ≤ hi) (h4 : hi < 2 ^ 62)
    (q : R (Itr lo (hi - lo).toNat) H) : wpAny (model X.prog X.w) X.A (pyIter (.ref s.heap.objs.size)) (PIE X pins σ tg R) E { s with heap := s.heap.push { cls := .type "range", data := .fields #[.int lo t, .int hi u, .int 1 v] }, toks := tk } := by
  refine wpAny_pyIter_range (IsRange.new ..) (small_one h1 h2 h3 h4) ?_
  have I1 : Inv X pins σ H { s with heap := s.heap.push { cls := .type "range", data := .fields #[.int lo t, .int hi u, .int 1 v] }, toks := tk } := I.kept fun b o e => Heap.get?_push_of_some _ e
  refine ⟨(s.heap.push { cls := .type "range", data := .fields #[.int lo t, .int hi u, .int 1 v] }).objs.size, [(s.heap.push { cls := .type "range", data := .fields #[.int lo t, .int hi u, .int 1 v] }).objs.size], _, _, H, rfl,
    I1.kept (t' := tk) fun b o e => Heap.get?_push_of_some _ e, turn_range _ lo (hi - lo).toNat, ?_, fun b hb => ?_, q⟩
  · have e1 : lo + ((0 : Nat) : Int) * 1 = lo := by simp
    have e2 : (((hi - lo).toNat : Nat) : Int) - ((0 : Nat) : Int) = Builtin.Range.rangeSize lo hi 1 := by rw [rangeSize_one]; split <;> omega
    show IsRangeIter _ _ (lo + ((0 : Nat) : Int) * 1) ((((hi - lo).toNat : Nat) : Int) - ((0 : Nat) : Int)) 1
    rw [e1, e2]
    exact Heap.get?_push_size _ rfl
  · have e : b = (s.heap.push { cls := .type "range", data := .fields #[.int lo t, .int hi u, .int 1 v] }).objs.size := by simpa using hb
    subst e
    exact I1.fpOk (Nat.le_refl _) (I1.hok.fresh (Nat.le_refl _))
def iRng1 (ta : TA) : TI := fun σ H R => ta σ H fun vs H1 => ∃ j : Int, vs = [.int j] ∧ -(2 ^ 62) ≤ j ∧ j < 2 ^ 62 ∧ R (Itr 0 j.toNat) H1
def iRng2 (ta : TA) : TI := fun σ H R => ta σ H fun vs H1 => ∃ i j : Int, vs = [.int i, .int j] ∧ (-(2 ^ 62) ≤ i ∧ i < 2 ^ 62 ∧ -(2 ^ 62) ≤ j ∧ j < 2 ^ 62) ∧ R (Itr i (j - i).toNat) H1
theorem pi_range1 {a : Expr} {ta : TA} {p pos : Pos} (hg : Gl X "range") (hm : X.mg "range" = none) (ha : PA X [a] ta) (hs : starEach [a] X.env = [(false, eval a X.env)] := by rfl) : PI X tg (.Call (.Name "range" p) [a] [] pos) (iRng1 ta) := by
  intro pins s σ H R I h
  refine Call_ (ld_blt I hg hm boot_range (PyProof.Rows.callWith_type1 (thn (ha pos pins s σ H _ I h) fun us s1 ⟨vs, H1, I1, r1, q1⟩ => ?_) hs rfl))
  obtain ⟨j, e, q1, q2, q⟩ := q1
  subst e
  cases r1 with
  | cons r rr =>
    cases rr
    obtain ⟨t, rfl⟩ := r
    exact call_range_1 (range_it I1 (by omega) (by omega) q1 q2 (by simpa using q))
theorem pi_range2 {a b : Expr} {ta : TA} {p pos : Pos} (hg : Gl X "range") (hm : X.mg "range" = none) (ha : PA X [a, b] ta) (hs : starEach [a, b] X.env = [(false, eval a X.env), (false, eval b X.env)] := by rfl) (hs2 : starEach [b] X.env = [(false, eval b X.env)] := by rfl) :
    PI X tg (.Call (.Name "range" p) [a, b] [] pos) (iRng2 ta) := by
  intro pins s σ H R I h
  refine Call_ (ld_blt I hg hm boot_range (PyProof.Rows.callWith_type1 (thn (ha pos pins s σ H _ I h) fun us s1 ⟨vs, H1, I1, r1, q1⟩ => ?_) (by rw [hs, hs2]) (by rw [hs2]; rfl)))
  obtain ⟨i, j, e, ⟨q1, q2, q3, q4⟩, q⟩ := q1
  subst e
  cases r1 with
  | cons r rr =>
    cases rr with
    | cons r' rr =>
      cases rr
      obtain ⟨t, rfl⟩ := r
      obtain ⟨t', rfl⟩ := r'
      exact call_range_2 (range_it I1 q1 q2 q3 q4 q)

/-! ### for -/
/-- W: the invariant by the turn and a measure; N: what the body is to reach -/
def tFor (wi : TI) (g : TG) (tb : TS) : TS := fun D σ H => wi σ H fun J H1 => ∃ W : Nat → Nat → St → Hp → Prop, (∃ m, W 0 m σ H1) ∧ ∀ i m σ H, W i m σ H →
  (J.stop i H ∧ D.nx σ H) ∨ (J.go i H ∧ ∃ N : St → Hp → Prop, (∀ σ' H', N σ' H' → ∃ m', m' < m ∧ W (i + 1) m' σ' H') ∧ ∀ x H', J.yld i H x H' → g x σ H' fun σ2 H2 => tb { D with nx := N, ct := N, bk := D.nx } σ2 H2)
/-- the records at fp as they stand -/
def pinsAt (fp : List Addr) (h : Heap) : List (Addr × Obj) := fp.filterMap fun b => (h.get? b).map fun o => (b, o)
theorem mem_pinsAt {fp : List Addr} {h : Heap} {b : Addr} {o : Obj} (hb : b ∈ fp) (e : h.get? b = some o) : (b, o) ∈ pinsAt fp h := List.mem_filterMap.mpr ⟨b, hb, by rw [e]; rfl⟩
theorem of_pinsAt {fp : List Addr} {h : Heap} {p : Addr × Obj} (hp : p ∈ pinsAt fp h) : p.1 ∈ fp ∧ h.get? p.1 = some p.2 := by
  obtain ⟨b, hb, e⟩ := List.mem_filterMap.mp hp
  cases q : h.get? b with
  | none => rw [q] at e; cases e
  | some o =>
    rw [q] at e
    have e' : (b, o) = p := Option.some.inj e
    subst e'
    exact ⟨hb, q⟩
theorem Inv.pinned {pins : List (Addr × Obj)} {σ : St} {H : Hp} {s : Shared} {fp : List Addr} (I : Inv X pins σ H s) (hf : ∀ b ∈ fp, FpOk X pins H b) (ho : ∀ b ∈ fp, ∃ o, s.heap.get? b = some o ∧ ∀ v, o.data ≠ .cell v) : Inv X (pins ++ pinsAt fp s.heap) σ H s :=
  I.pins_of fun p hp => (List.mem_append.mp hp).elim (fun z => I.pin p (List.mem_append_right _ z)) fun z => by
    obtain ⟨hb, e⟩ := of_pinsAt z
    obtain ⟨f0, f1, f2, _⟩ := hf p.1 hb
    obtain ⟨o, e', d⟩ := ho p.1 hb
    rw [e] at e'; cases e'
    exact ⟨e, f0, f1, f2, d⟩
theorem Inv.unpinned {pins pl : List (Addr × Obj)} {σ : St} {H : Hp} {s : Shared} (I : Inv X (pins ++ pl) σ H s) : Inv X pins σ H s := I.pins_of fun p hp => I.pin p (List.mem_append_right _ (List.mem_append_left _ hp))
theorem ps_for {iter : Expr} {body : List Stmt} {wi : TI} {g : TG} {tb : TS} {pos : Pos} (hp : PassesOwn (model X.prog X.w) X.A X.env X.xe) (hc : X.calm = true) (hi : PI X tg iter wi) (hg : PG X tg g) (hb : PSs X body tb)
    (hs : ∀ x, foldedSetIterable iter X.env x = pure x := by intro _; rfl) : PS X (.For tg iter body [] pos) (tFor wi g tb) := by
  intro pins s σ H D I h
  refine wpAny_For (thn (hi pins s σ H _ I h) fun v s1 h1 => thn h1 fun itv s2 h2 => ?_) hs
  obtain ⟨it, fp, tn, J, H2, e, I2, T, st2, f2, W, ⟨m0, w0⟩, turn⟩ := h2
  subst e
  -- what stays true of the iterator's objects through the loop
  have stat : ∀ {H' : Hp}, (∀ b ∈ fp, H' b = none) → ∀ b ∈ fp, FpOk X pins H' b := fun hn b hb => ⟨hn b hb, (f2 b hb).2⟩
  refine codeAny_forLoop_any (fun n s' => ∃ i σ' H', Inv X pins σ' H' s' ∧ tn i s'.heap ∧ (∀ b ∈ fp, H' b = none) ∧ W i n σ' H') ?_ m0 ⟨0, σ, H2, I2, st2, fun b hb => (f2 b hb).1, w0⟩
  rintro n s3 ⟨i, σ3, H3, I3, st3, fr3, w3⟩
  rcases turn i n σ3 H3 w3 with ⟨stop, qn⟩ | ⟨go, N, hN, step⟩
  · refine wpAny_passesOwn hp (thn (T.done X rfl rfl rfl hc i pins s3 σ3 H3 X.xe I3 (stat fr3) st3 stop) fun r s4 ⟨hr, I4⟩ => ?_)
    subst hr
    exact wpAny_execs_nil ⟨σ3, H3, I4, qn⟩
  · refine wpAny_passesOwn hp (thn (T.item X rfl rfl rfl hc i pins s3 σ3 H3 X.xe I3 (stat fr3) st3 go) fun r s4 ⟨u, hr, h4⟩ => ?_)
    subst hr
    refine wpAny_passesOwn hp (thn h4 fun _ s5 ⟨x, H5, I5, r5, y5, st5, fr5⟩ => ?_)
    have I5' := I5.pinned (stat fr5) (T.obj _ _ st5)
    refine wpAny_passesOwn hp (thn (hg _ s5 σ3 H5 x u _ I5' r5 (step x H5 y5)) fun _ s6 ⟨σ6, H6, I6, q6⟩ => ?_)
    refine wpAny_passesOwn hp (thn (hb _ s6 σ6 H6 _ I6 q6) fun f s7 q7 => ?_)
    have again : ∀ {σ7 : St} {H7 : Hp}, Inv X (pins ++ pinsAt fp s5.heap) σ7 H7 s7 → N σ7 H7 → ∃ m, m < n ∧ ∃ i σ' H', Inv X pins σ' H' s7 ∧ tn i s7.heap ∧ (∀ b ∈ fp, H' b = none) ∧ W i m σ' H' := fun {σ7 H7} I7 n7 => by
      obtain ⟨m', hm, w7⟩ := hN σ7 H7 n7
      refine ⟨m', hm, i + 1, σ7, H7, I7.unpinned, T.keep _ _ _ st5 fun b hb o e => (I7.pin (b, o) (List.mem_append_right _ (List.mem_append_right _ (mem_pinsAt hb e)))).1, fun b hb => ?_, w7⟩
      obtain ⟨o, e, d⟩ := T.obj _ _ st5 b hb
      exact (I7.pin (b, o) (List.mem_append_right _ (List.mem_append_right _ (mem_pinsAt hb e)))).2.1
    cases f with
    | next => obtain ⟨σ7, H7, I7, n7⟩ := q7; exact again I7 n7
    | cont => obtain ⟨σ7, H7, I7, n7⟩ := q7; exact again I7 n7
    | brk => obtain ⟨σ7, H7, I7, q7⟩ := q7; exact ⟨σ7, H7, I7.unpinned, q7⟩
    | ret v => obtain ⟨x7, σ7, H7, I7, r7, q7⟩ := q7; exact ⟨x7, σ7, H7, I7.unpinned, r7, q7⟩
end

theorem for_range {lo : Int} {n : Nat} {g : TG} {tb : TS} {D : Ends} {σ : St} {H : Hp} (Pv : Nat → St → Hp → Prop) (h0 : Pv 0 σ H)
    (hs : ∀ i σ H, i < n → Pv i σ H → g (.int (lo + i)) σ H fun σ2 H2 => tb { D with nx := Pv (i + 1), ct := Pv (i + 1), bk := D.nx } σ2 H2) (hd : ∀ σ H, Pv n σ H → D.nx σ H) :
    ∃ W : Nat → Nat → St → Hp → Prop, (∃ m, W 0 m σ H) ∧ ∀ i m σ H, W i m σ H →
      ((Itr lo n).stop i H ∧ D.nx σ H) ∨ ((Itr lo n).go i H ∧ ∃ N : St → Hp → Prop, (∀ σ' H', N σ' H' → ∃ m', m' < m ∧ W (i + 1) m' σ' H') ∧ ∀ x H', (Itr lo n).yld i H x H' → g x σ H' fun σ2 H2 => tb { D with nx := N, ct := N, bk := D.nx } σ2 H2) := by
  refine ⟨fun i m σ H => m = n - i ∧ i ≤ n ∧ Pv i σ H, ⟨n, by simp, Nat.zero_le _, h0⟩, ?_⟩
  rintro i m σ H ⟨rfl, hi, p⟩
  by_cases hlt : i < n
  · refine .inr ⟨hlt, Pv (i + 1), fun σ' H' p' => ⟨n - (i + 1), by omega, rfl, hlt, p'⟩, fun x H' y => ?_⟩
    obtain ⟨e, y⟩ := y
    subst e y
    exact hs i σ _ hlt p
  · have e : i = n := by omega
    subst e
    exact .inl ⟨Nat.le_refl _, hd σ H p⟩
end L2

namespace L2
open PySem PySem.Spec PyProof.Rows

abbrev R2 := V → V → Hp → VK → Prop
/-- a two-place operation on values: f is binaryOp op, inplaceOp op or compareOp op -/
def OpR (X : Cx) (f : Value → Value → Sem Value) (r : R2) : Prop :=
  ∀ (pins : List (Addr × Obj)) (s : Shared) (σ : St) (H : Hp) (x y : V) (v u : Value) (Q : VK), Inv X pins σ H s → RelV x v → RelV y u → r x y H Q →
    wpAny (model X.prog X.w) X.A (f v u) (EP X pins σ Q) X.xe s
/-- a one-place operation -/
def UnR (X : Cx) (f : Value → Sem Value) (r : V → Hp → VK → Prop) : Prop :=
  ∀ (pins : List (Addr × Obj)) (s : Shared) (σ : St) (H : Hp) (x : V) (v : Value) (Q : VK), Inv X pins σ H s → RelV x v → r x H Q →
    wpAny (model X.prog X.w) X.A (f v) (EP X pins σ Q) X.xe s
/-- a call of a value that is known (a builtin, a type) with values -/
def CallR (X : Cx) (f : Value) (r : List V → Hp → VK → Prop) : Prop :=
  ∀ (pins : List (Addr × Obj)) (s : Shared) (σ : St) (H : Hp) (xs : List V) (us : List Value) (Q : VK), Inv X pins σ H s → Vals xs us → r xs H Q →
    wpAny (model X.prog X.w) X.A (call f us) (EP X pins σ Q) X.xe s
/-- a value's truth -/
def TruR (X : Cx) (r : V → Hp → (Bool → Hp → Prop) → Prop) : Prop :=
  ∀ (pins : List (Addr × Obj)) (s : Shared) (σ : St) (H : Hp) (x : V) (v : Value) (Q : Bool → Hp → Prop), Inv X pins σ H s → RelV x v → r x H Q →
    wpAny (model X.prog X.w) X.A (truthy v) (TP X pins σ Q) X.xe s

def tOp (r : R2) (ta tb : TE) : TE := fun σ H Q => ta σ H fun x H1 => tb σ H1 fun y H2 => r x y H2 Q
def tUn (r : V → Hp → VK → Prop) (ta : TE) : TE := fun σ H Q => ta σ H fun x H1 => r x H1 Q
/-- ints in, under C, and a value out -/
def rI (C : Int → Int → Prop) (g : Int → Int → V) : R2 := fun x y H Q => ∃ i j, x = .int i ∧ y = .int j ∧ C i j ∧ Q (g i j) H
def rI0 (g : Int → Int → V) : R2 := fun x y H Q => ∃ i j, x = .int i ∧ y = .int j ∧ Q (g i j) H
def rU (g : Int → V) : V → Hp → VK → Prop := fun x H Q => ∃ i, x = .int i ∧ Q (g i) H

section
variable {X : Cx} {a b c : Expr} {ta tb tc : TE} {pos : Pos}

theorem binT (ha : PE X a ta) (hb : PE X b tb) {pins : List (Addr × Obj)} {s : Shared} {σ : St} {H : Hp} {R : V → V → Hp → Prop} (I : Inv X pins σ H s)
    (h : ta σ H fun x H1 => tb σ H1 fun y H2 => R x y H2) {Q : Value → Shared → Prop} {f : Value → Value → Sem Value}
    (hf : ∀ v u s2 x y H2, Inv X pins σ H2 s2 → RelV x v → RelV y u → R x y H2 → wpAny (model X.prog X.w) X.A (f v u) Q X.xe s2) :
    wpAny (model X.prog X.w) X.A (eval a X.env) (fun v s₁ => wpAny (model X.prog X.w) X.A (eval b X.env) (fun u s₂ => wpAny (model X.prog X.w) X.A (f v u) Q X.xe s₂) X.xe s₁) X.xe s := by
  refine thn (ha pins s σ H _ I h) fun v s1 ⟨x, H1, I1, r1, q1⟩ => ?_
  refine thn (hb pins s1 σ H1 _ I1 q1) fun u s2 ⟨y, H2, I2, r2, q2⟩ => ?_
  exact hf v u s2 x y H2 I2 r1 r2 q2

theorem pe_op {op : Operator} {r : R2} (ho : OpR X (binaryOp op) r) (ha : PE X a ta) (hb : PE X b tb) : PE X (.BinOp a op b pos) (tOp r ta tb) := by
  intro pins s σ H Q I h
  exact wpAny_BinOp (binT ha hb I h fun v u s2 x y H2 I2 rx ry q => ho pins s2 σ H2 x y v u Q I2 rx ry q)
theorem pe_un {op : UnaryOp} {r : V → Hp → VK → Prop} (ho : UnR X (unaryOp op) r) (ha : PE X a ta) : PE X (.UnaryOp op a pos) (tUn r ta) := by
  intro pins s σ H Q I h
  exact UnaryOp_ (thn (ha pins s σ H _ I h) fun v s1 ⟨x, H1, I1, r1, q1⟩ => ho pins s1 σ H1 x v Q I1 r1 q1)
/-! ### ints -/
theorem opI {f : Value → Value → Sem Value} {C : Int → Int → Prop} {g : Int → Int → Int}
    (rule : ∀ (i j : Int) (t u : Tok) (s : Shared) (Q : Value → Shared → Prop) (E : Value → Shared → Prop), C i j → Q (.int (g i j) s.toks) { s with toks := s.toks + 1 } → wpAny (model X.prog X.w) X.A (f (.int i t) (.int j u)) Q E s) :
    OpR X f (rI C fun i j => .int (g i j)) := by
  intro pins s σ H x y v u Q I rx ry h
  obtain ⟨i, j, rfl, rfl, hc, q⟩ := h
  obtain ⟨t, rfl⟩ := rx
  obtain ⟨t', rfl⟩ := ry
  exact rule i j t t' s _ _ hc ⟨.int (g i j), H, I.tok _, ⟨_, rfl⟩, q⟩
theorem opI0 {f : Value → Value → Sem Value} {g : Int → Int → Int}
    (rule : ∀ (i j : Int) (t u : Tok) (s : Shared) (Q : Value → Shared → Prop) (E : Value → Shared → Prop), Q (.int (g i j) s.toks) { s with toks := s.toks + 1 } → wpAny (model X.prog X.w) X.A (f (.int i t) (.int j u)) Q E s) :
    OpR X f (rI0 fun i j => .int (g i j)) := by
  intro pins s σ H x y v u Q I rx ry h
  obtain ⟨i, j, rfl, rfl, q⟩ := h
  obtain ⟨t, rfl⟩ := rx
  obtain ⟨t', rfl⟩ := ry
  exact rule i j t t' s _ _ ⟨.int (g i j), H, I.tok _, ⟨_, rfl⟩, q⟩
theorem opB0 {f : Value → Value → Sem Value} {g : Int → Int → Bool}
    (rule : ∀ (i j : Int) (t u : Tok) (s : Shared) (Q : Value → Shared → Prop) (E : Value → Shared → Prop), Q (.bool (g i j)) s → wpAny (model X.prog X.w) X.A (f (.int i t) (.int j u)) Q E s) :
    OpR X f (rI0 fun i j => .bl (g i j)) := by
  intro pins s σ H x y v u Q I rx ry h
  obtain ⟨i, j, rfl, rfl, q⟩ := h
  obtain ⟨t, rfl⟩ := rx
  obtain ⟨t', rfl⟩ := ry
  exact rule i j t t' s _ _ ⟨.bl (g i j), H, I, rfl, q⟩

def CDiv (i j : Int) : Prop := 0 < j ∧ j < 1073741824
def CMul (i j : Int) : Prop := (-(2 ^ 64) < i ∧ i < 2 ^ 64) ∨ (-(2 ^ 64) < j ∧ j < 2 ^ 64)
theorem CMul.ok {i j : Int} (h : CMul i j) : IntMulOk i j := by
  rcases h with ⟨h1, h2⟩ | ⟨h1, h2⟩
  · exact .of_left (intBits_le_64 h1 h2)
  · exact .of_right (intBits_le_64 h1 h2)
theorem op_add : OpR X (binaryOp .Add) (rI0 fun i j => .int (i + j)) := opI0 fun _ _ _ _ _ _ _ q => add_int q
theorem op_sub : OpR X (binaryOp .Sub) (rI0 fun i j => .int (i - j)) := opI0 fun _ _ _ _ _ _ _ q => sub_int q
theorem op_mul : OpR X (binaryOp .Mult) (rI CMul fun i j => .int (i * j)) := opI fun _ _ _ _ _ _ _ hc q => mul_int q hc.ok
/-- // by a positive divisor -/
theorem op_fdiv : OpR X (binaryOp .FloorDiv) (rI CDiv fun i j => .int (i / j)) := opI fun i j _ _ _ _ _ hc q => by
  have h1 : (0 : Int) < j := hc.1
  have h2 : j < 1073741824 := hc.2
  exact floordiv_int (by omega) (by rw [Int.fdiv_eq_ediv_of_nonneg i (by omega)]; exact q) (.inl (PyProof.noPylong_small (by omega)))
/-- % by a positive divisor of any size -/
theorem op_mod : OpR X (binaryOp .Mod) (rI (fun _ j => 0 < j) fun i j => .int (i % j)) := opI fun i j _ _ _ _ _ hc q => by
  have h1 : (0 : Int) < j := hc
  exact mod_int' (by omega) (by rw [Int.fmod_eq_emod_of_nonneg i (by omega)]; exact q)
theorem op_modN : OpR X (binaryOp .Mod) (rI (fun _ j => j ≠ 0) fun i j => .int (i.fmod j)) := opI fun _ _ _ _ _ _ _ hc q => mod_int' hc q
theorem iop_add : OpR X (inplaceOp .Add) (rI0 fun i j => .int (i + j)) := opI0 fun _ _ _ _ _ _ _ q => iadd_int q
theorem iop_mul : OpR X (inplaceOp .Mult) (rI CMul fun i j => .int (i * j)) := opI fun _ _ _ _ _ _ _ hc q => imul_int q hc.ok
theorem unI {f : Value → Sem Value} {g : Int → Int}
    (rule : ∀ (i : Int) (t : Tok) (s : Shared) (Q : Value → Shared → Prop) (E : Value → Shared → Prop), Q (.int (g i) s.toks) { s with toks := s.toks + 1 } → wpAny (model X.prog X.w) X.A (f (.int i t)) Q E s) :
    UnR X f (rU fun i => .int (g i)) := by
  intro pins s σ H x v Q I rx h
  obtain ⟨i, rfl, q⟩ := h
  obtain ⟨t, rfl⟩ := rx
  exact rule i t s _ _ ⟨.int (g i), H, I.tok _, ⟨_, rfl⟩, q⟩
theorem un_neg : UnR X (unaryOp .USub) (rU fun i => .int (-i)) := unI fun _ _ _ _ _ q => neg_int q
end

/-! ### comparisons -/
/-- the scalars that == tells apart as data does -/
def scal : V → V → Bool
  | .non, .non => true | .non, .int _ => true | .int _, .non => true | .non, .bl _ => true | .bl _, .non => true | .non, .str _ => true | .str _, .non => true
  | .int _, .int _ => true | .bl _, .bl _ => true | .str _, .str _ => true | .byt _, .byt _ => true
  | .int _, .str _ => true | .str _, .int _ => true | .bl _, .str _ => true | .str _, .bl _ => true
  | _, _ => false
def rEq : R2 := fun x y H Q => scal x y = true ∧ Q (.bl (decide (x = y))) H
def rNe : R2 := fun x y H Q => scal x y = true ∧ Q (.bl (!decide (x = y))) H

theorem dec_int {i j : Int} : decide (V.int i = V.int j) = (i == j) := by
  rw [Bool.eq_iff_iff]
  simp
theorem dec_bl {i j : Bool} : decide (V.bl i = V.bl j) = (i == j) := by
  rw [Bool.eq_iff_iff]
  simp
theorem dec_str {i j : Str} : decide (V.str i = V.str j) = (i == j) := by
  rw [Bool.eq_iff_iff]
  simp
theorem dec_byt {i j : Array UInt8} : decide (V.byt i = V.byt j) = (i.toList == j.toList) := by
  rw [Bool.eq_iff_iff]
  cases i
  cases j
  simp

section
variable {X : Cx} {a b c : Expr} {ta tb tc : TE} {pos : Pos}
theorem fin_bl {pins : List (Addr × Obj)} {σ : St} {H : Hp} {s : Shared} {Q : VK} {k k' : Bool} (I : Inv X pins σ H s) (q : Q (.bl k) H) (e : k = k') : EP X pins σ Q (.bool k') s := by
  subst e
  exact ⟨.bl k, H, I, rfl, q⟩
theorem op_eq : OpR X (compareOp .Eq) rEq := by
  intro pins s σ H x y v u Q I rx ry h
  obtain ⟨hs, q⟩ := h
  cases x with
  | non =>
    cases rx
    cases y with
    | non => cases ry; exact PySem.EqNone.eq_none_none (fin_bl I q (by simp))
    | bl j => cases ry; exact PySem.EqNone.eq_none_bool (fin_bl I q (by simp))
    | int j => obtain ⟨t', rfl⟩ := ry; exact PySem.EqNone.eq_none_int (fin_bl I q (by simp))
    | str j => obtain ⟨t', rfl⟩ := ry; exact PySem.EqNone.eq_none_str (fin_bl I q (by simp))
    | _ => exact absurd (show false = true from hs) Bool.false_ne_true
  | bl i =>
    cases rx
    cases y with
    | non => cases ry; exact PySem.EqNone.eq_bool_none (fin_bl I q (by simp))
    | bl j => cases ry; exact eq_bool (fin_bl I q dec_bl)
    | str j => obtain ⟨t', rfl⟩ := ry; exact PySem.EqMixed.eq_bool_str (fin_bl I q (by simp))
    | _ => exact absurd (show false = true from hs) Bool.false_ne_true
  | int i =>
    obtain ⟨t, rfl⟩ := rx
    cases y with
    | non => cases ry; exact PySem.EqNone.eq_int_none (fin_bl I q (by simp))
    | int j => obtain ⟨t', rfl⟩ := ry; exact eq_int (fin_bl I q dec_int)
    | str j => obtain ⟨t', rfl⟩ := ry; exact PySem.EqMixed.eq_int_str (fin_bl I q (by simp))
    | _ => exact absurd (show false = true from hs) Bool.false_ne_true
  | str i =>
    obtain ⟨t, rfl⟩ := rx
    cases y with
    | non => cases ry; exact PySem.EqNone.eq_str_none (fin_bl I q (by simp))
    | bl j => cases ry; exact PySem.EqMixed.eq_str_bool (fin_bl I q (by simp))
    | int j => obtain ⟨t', rfl⟩ := ry; exact PySem.EqMixed.eq_str_int (fin_bl I q (by simp))
    | str j => obtain ⟨t', rfl⟩ := ry; exact eq_str (fin_bl I q dec_str)
    | _ => exact absurd (show false = true from hs) Bool.false_ne_true
  | byt i =>
    obtain ⟨t, rfl⟩ := rx
    cases y with
    | byt j => obtain ⟨t', rfl⟩ := ry; exact PySem.W.eq_bytes (fin_bl I q dec_byt)
    | _ => exact absurd (show false = true from hs) Bool.false_ne_true
  | _ => cases y <;> exact absurd (show false = true from hs) Bool.false_ne_true
theorem op_ne : OpR X (compareOp .NotEq) rNe := by
  intro pins s σ H x y v u Q I rx ry h
  obtain ⟨hs, q⟩ := h
  cases x with
  | non =>
    cases rx
    cases y with
    | non => cases ry; exact PySem.EqNone.ne_none_none (fin_bl I q (by simp))
    | bl j => cases ry; exact PySem.EqNone.ne_none_bool (fin_bl I q (by simp))
    | int j => obtain ⟨t', rfl⟩ := ry; exact PySem.EqNone.ne_none_int (fin_bl I q (by simp))
    | str j => obtain ⟨t', rfl⟩ := ry; exact PySem.EqNone.ne_none_str (fin_bl I q (by simp))
    | _ => exact absurd (show false = true from hs) Bool.false_ne_true
  | bl i =>
    cases rx
    cases y with
    | non => cases ry; exact PySem.EqNone.ne_bool_none (fin_bl I q (by simp))
    | bl j => cases ry; exact ne_bool (fin_bl I q (congrArg not dec_bl))
    | str j => obtain ⟨t', rfl⟩ := ry; exact PySem.EqMixed.ne_bool_str (fin_bl I q (by simp))
    | _ => exact absurd (show false = true from hs) Bool.false_ne_true
  | int i =>
    obtain ⟨t, rfl⟩ := rx
    cases y with
    | non => cases ry; exact PySem.EqNone.ne_int_none (fin_bl I q (by simp))
    | int j => obtain ⟨t', rfl⟩ := ry; exact ne_int (fin_bl I q (congrArg not dec_int))
    | str j => obtain ⟨t', rfl⟩ := ry; exact PySem.EqMixed.ne_int_str (fin_bl I q (by simp))
    | _ => exact absurd (show false = true from hs) Bool.false_ne_true
  | str i =>
    obtain ⟨t, rfl⟩ := rx
    cases y with
    | non => cases ry; exact PySem.EqNone.ne_str_none (fin_bl I q (by simp))
    | bl j => cases ry; exact PySem.EqMixed.ne_str_bool (fin_bl I q (by simp))
    | int j => obtain ⟨t', rfl⟩ := ry; exact PySem.EqMixed.ne_str_int (fin_bl I q (by simp))
    | str j => obtain ⟨t', rfl⟩ := ry; exact ne_str (fin_bl I q (congrArg not dec_str))
    | _ => exact absurd (show false = true from hs) Bool.false_ne_true
  | byt i =>
    obtain ⟨t, rfl⟩ := rx
    cases y with
    | byt j => obtain ⟨t', rfl⟩ := ry; exact PySem.W.ne_bytes (fin_bl I q (congrArg not dec_byt))
    | _ => exact absurd (show false = true from hs) Bool.false_ne_true
  | _ => cases y <;> exact absurd (show false = true from hs) Bool.false_ne_true

theorem op_lt : OpR X (compareOp .Lt) (rI0 fun i j => .bl (decide (i < j))) := opB0 fun _ _ _ _ _ _ _ q => lt_int q
theorem op_le : OpR X (compareOp .LtE) (rI0 fun i j => .bl (decide (i ≤ j))) := opB0 fun _ _ _ _ _ _ _ q => le_int q
theorem op_gt : OpR X (compareOp .Gt) (rI0 fun i j => .bl (decide (j < i))) := opB0 fun _ _ _ _ _ _ _ q => gt_int q
theorem op_ge : OpR X (compareOp .GtE) (rI0 fun i j => .bl (decide (j ≤ i))) := opB0 fun _ _ _ _ _ _ _ q => ge_int q
theorem nomark (b : Expr) {op : CmpOp} (h : op ≠ .In := by decide) (h2 : op ≠ .NotIn := by decide) : behindInMarks op b = false := by
  have e1 : (op == CmpOp.In) = false := by cases op <;> first | rfl | exact absurd rfl h
  have e2 : (op == CmpOp.NotIn) = false := by cases op <;> first | rfl | exact absurd rfl h2
  cases b <;> simp [behindInMarks, e1, e2]
/-- a comparison as a value; hm: nomark b, or (for in, not in) by with_unfolding_all rfl -/
theorem pe_cmpR {op : CmpOp} {r : R2} (ho : OpR X (compareOp op) r) (ha : PE X a ta) (hb : PE X b tb) (hm : behindInMarks op b = false) : PE X (.Compare a [op] [b] pos) (tOp r ta tb) := by
  intro pins s σ H Q I h
  exact wpAny_Compare1 (binT ha hb I h fun v u s2 x y H2 I2 rx ry q => ho pins s2 σ H2 x y v u Q I2 rx ry q) hm
/-- a reading of a value as a test -/
def tTest (t : TE) : TT := fun σ H Q => t σ H fun x H' => ∃ k, x = .bl k ∧ Q k H'
theorem pt_cmpR {op : CmpOp} {r : R2} (ho : OpR X (compareOp op) r) (ha : PE X a ta) (hb : PE X b tb) (hm : behindInMarks op b = false) : PT X (.Compare a [op] [b] pos) (tTest (tOp r ta tb)) := by
  intro pins s σ H Q I h
  refine wpAny_isTrue_Compare1 (thn (ha pins s σ H _ I h) fun v s1 ⟨x, H1, I1, r1, q1⟩ => thn (hb pins s1 σ H1 _ I1 q1) fun u s2 ⟨y, H2, I2, r2, q2⟩ =>
    thn (ho pins s2 σ H2 x y v u _ I2 r1 r2 q2) fun c s3 ⟨z, H3, I3, r3, k, e, q3⟩ => ?_) hm
  subst e
  cases r3
  exact wpAny_truthy_bool ⟨H3, I3, q3⟩
/-- a op1 b op2 c -/
def tChain (r r' : R2) (ta tb tc : TE) : TE := fun σ H Q => ta σ H fun x H1 => tb σ H1 fun y H2 => r x y H2 fun z H3 => ∃ k, z = .bl k ∧
  (if k = true then tc σ H3 fun w' H4 => r' y w' H4 Q else Q (.bl false) H3)
theorem pe_chain {op op' : CmpOp} {r r' : R2} (ho : OpR X (compareOp op) r) (ho' : OpR X (compareOp op') r') (ha : PE X a ta) (hb : PE X b tb) (hc : PE X c tc)
    (hm : lastMarks [op, op'] [b, c] = false := by with_unfolding_all rfl) : PE X (.Compare a [op, op'] [b, c] pos) (tChain r r' ta tb tc) := by
  intro pins s σ H Q I h
  refine Compare_chain (thn (ha pins s σ H _ I h) fun v s1 ⟨x, H1, I1, r1, q1⟩ => chain_link (thn (hb pins s1 σ H1 _ I1 q1) fun u s2 ⟨y, H2, I2, r2, q2⟩ =>
    thn (ho pins s2 σ H2 x y v u _ I2 r1 r2 q2) fun d s3 ⟨z, H3, I3, r3, k, e, q3⟩ => ?_)) hm
  subst e
  cases r3
  refine wpAny_truthy_bool ?_
  cases k with
  | false => exact ite_ff ⟨.bl false, H3, I3, rfl, q3⟩
  | true => exact ite_tt (chain_last (thn (hc pins s3 σ H3 _ I3 q3) fun w' s4 ⟨z', H4, I4, r4, q4⟩ => ho' pins s4 σ H4 y z' u w' Q I4 r2 r4 q4))
theorem pt_chain {op op' : CmpOp} {r r' : R2} (ho : OpR X (compareOp op) r) (ho' : OpR X (compareOp op') r') (ha : PE X a ta) (hb : PE X b tb) (hc : PE X c tc)
    (hm : lastMarks [op, op'] [b, c] = false := by with_unfolding_all rfl) : PT X (.Compare a [op, op'] [b, c] pos) (tTest (tChain r r' ta tb tc)) := by
  intro pins s σ H Q I h
  refine isTrue_chain (thn (ha pins s σ H _ I h) fun v s1 ⟨x, H1, I1, r1, q1⟩ => test_link (thn (hb pins s1 σ H1 _ I1 q1) fun u s2 ⟨y, H2, I2, r2, q2⟩ =>
    thn (ho pins s2 σ H2 x y v u _ I2 r1 r2 q2) fun d s3 ⟨z, H3, I3, r3, k, e, q3⟩ => ?_)) hm
  subst e
  cases r3
  refine wpAny_truthy_bool ?_
  cases k with
  | false =>
    obtain ⟨k', e', q'⟩ := q3
    cases e'
    exact ite_ff ⟨H3, I3, q'⟩
  | true =>
    refine ite_tt (test_last (thn (hc pins s3 σ H3 _ I3 q3) fun w' s4 ⟨z', H4, I4, r4, q4⟩ => thn (ho' pins s4 σ H4 y z' u w' _ I4 r2 r4 q4) fun d' s5 ⟨z2, H5, I5, r5, k2, e2, q5⟩ => ?_))
    subst e2
    cases r5
    exact wpAny_truthy_bool ⟨H5, I5, q5⟩

/-! ### truth -/
/-- a value's truth by the abstract heap -/
def TruV (K : PySem.W.Frag) (x : V) (H : Hp) (k : Bool) : Prop :=
  match x with
  | .non => k = false
  | .bl b => k = b
  | .int i => k = (i != 0)
  | .str y => y.length ≤ sizeLine ∧ k = ((y.length : Int) != 0)
  | .byt y => y.size ≤ sizeLine ∧ k = ((y.size : Int) != 0)
  | .ref p => (∃ xs, SqL K H p xs ∧ k = !xs.isEmpty) ∨ (∃ xs, SqT K H p xs ∧ k = !xs.isEmpty) ∨ ∃ kvs, H p = some (.dK kvs) ∧ k = !kvs.isEmpty
  | _ => False
theorem isEmpty_kv {κ : Type} {kvs : List (κ × V)} {vs : List (κ × Value)} (r : KV kvs vs) : (!vs.isEmpty) = !kvs.isEmpty := by
  cases r <;> rfl
theorem isEmpty_of {xs : List V} {its : List Value} (r : Vals xs its) : (!its.toArray.isEmpty) = !xs.isEmpty := by
  cases r <;> simp
theorem line63 : (sizeLine : Nat) < 2 ^ 63 := by rw [sizeLine_eq]; decide
theorem tru_ok : TruR X (fun x H Q => ∃ k, TruV X.K x H k ∧ Q k H) := by
  intro pins s σ H x v Q I rx h
  obtain ⟨k, e, q⟩ := h
  have hl := line63
  have hs : sizeLine = 16777216 := sizeLine_eq
  cases x with
  | non =>
    cases rx
    have e' : k = false := e
    subst e'
    exact truthy_none ⟨H, I, q⟩
  | bl b =>
    cases rx
    have e' : k = b := e
    subst e'
    exact wpAny_truthy_bool ⟨H, I, q⟩
  | int i =>
    obtain ⟨t, rfl⟩ := rx
    have e' : k = (i != 0) := e
    subst e'
    exact PySem.P.truthy_int ⟨H, I, q⟩
  | str y =>
    obtain ⟨t, rfl⟩ := rx
    obtain ⟨hy, e'⟩ : y.length ≤ sizeLine ∧ k = ((y.length : Int) != 0) := e
    subst e'
    exact PySem.P.truthy_str (by omega) ⟨H, I.tok _, q⟩
  | byt y =>
    obtain ⟨t, rfl⟩ := rx
    obtain ⟨hy, e'⟩ : y.size ≤ sizeLine ∧ k = ((y.size : Int) != 0) := e
    subst e'
    exact PySem.W.truthy_bytes (by omega) ⟨H, I.tok _, q⟩
  | ref p =>
    cases rx
    have e' : (∃ xs, SqL X.K H p xs ∧ k = !xs.isEmpty) ∨ (∃ xs, SqT X.K H p xs ∧ k = !xs.isEmpty) ∨ ∃ kvs, H p = some (.dK kvs) ∧ k = !kvs.isEmpty := e
    rcases e' with ⟨xs, hx, e'⟩ | ⟨xs, hx, e'⟩ | ⟨kvs, hx, e'⟩
    · subst e'
      obtain ⟨its, r, pl, hz⟩ := I.list hx
      have hlen := r.length
      exact wpAny_truthy_list pl.isList (by simp only [List.size_toArray]; omega) ⟨H, I.tok _, by rw [isEmpty_of r]; exact q⟩
    · subst e'
      obtain ⟨its, r, pl, hz⟩ := I.tuple hx
      have hlen := r.length
      exact truthy_tuple pl (by simp only [List.size_toArray]; omega) ⟨H, I.tok _, by rw [isEmpty_of r]; exact q⟩
    · subst e'
      obtain ⟨hz, hS, vs, r, m⟩ : kvs.length ≤ sizeLine ∧ (p == sysModules) = false ∧ ∃ vs, KV kvs vs ∧ s.heap.DictOf (mixKind X.prog X.w) p vs := I.hok p _ hx
      have hlen : kvs.length = vs.length := Paired.length r
      exact wpAny_truthy_dict hS m (by omega) ⟨H, I.tok _, by rw [isEmpty_kv r]; exact q⟩
  | _ => exact (show False from e).elim
/-- any expression whose test is its value's truth (a name, a call, a subscript, a field ..: he by fun _ => rfl) -/
theorem pt_truth (ha : PE X a ta) (he : ∀ whole, isTrue a X.env whole = (do let v ← whole; standAt a.pos; holding [v] (truthy v))) :
    PT X a (fun σ H Q => ta σ H fun x H' => ∃ k, TruV X.K x H' k ∧ Q k H') := by
  intro pins s σ H Q I h
  exact isTrue_plain (thn (ha pins s σ H _ I h) fun v s1 ⟨x, H1, I1, r1, q1⟩ => tru_ok pins s1 σ H1 x v Q I1 r1 q1) (he _)

/-! ### scalar builtins, by CallR -/
theorem vals1 {x : V} {us : List Value} (r : Vals [x] us) : ∃ u, us = [u] ∧ RelV x u := by
  cases r with
  | cons r1 r2 => cases r2; exact ⟨_, rfl, r1⟩
theorem vals2 {x y : V} {us : List Value} (r : Vals [x, y] us) : ∃ u w', us = [u, w'] ∧ RelV x u ∧ RelV y w' := by
  cases r with
  | cons r1 r2 =>
    cases r2 with
    | cons r3 r4 => cases r4; exact ⟨_, _, rfl, r1, r3⟩
theorem call_abs : CallR X (.builtin "abs") (fun xs H Q => ∃ i, xs = [.int i] ∧ Q (.int (if i < 0 then -i else i)) H) := by
  intro pins s σ H xs us Q I r h
  obtain ⟨i, rfl, q⟩ := h
  obtain ⟨u, rfl, t, rfl⟩ := vals1 r
  exact call_abs_int fun u tk => ⟨.int (if i < 0 then -i else i), H, I.tok _, ⟨_, rfl⟩, q⟩
theorem call_max2 (hc : X.calm = true) : CallR X (.builtin "max") (fun xs H Q => ∃ i j, xs = [.int i, .int j] ∧ Q (.int (if j > i then j else i)) H) := by
  intro pins s σ H xs us Q I r h
  obtain ⟨i, j, rfl, q⟩ := h
  obtain ⟨u, w', rfl, ⟨t, rfl⟩, ⟨t', rfl⟩⟩ := vals2 r
  refine max_two_ints (I.ok.hd hc) fun h' tk k => ⟨_, H, I.kept k, ?_, q⟩
  by_cases hj : j > i
  · rw [if_pos hj, if_pos hj]; exact ⟨_, rfl⟩
  · rw [if_neg hj, if_neg hj]; exact ⟨_, rfl⟩
theorem call_min2 (hc : X.calm = true) : CallR X (.builtin "min") (fun xs H Q => ∃ i j, xs = [.int i, .int j] ∧ Q (.int (if j < i then j else i)) H) := by
  intro pins s σ H xs us Q I r h
  obtain ⟨i, j, rfl, q⟩ := h
  obtain ⟨u, w', rfl, ⟨t, rfl⟩, ⟨t', rfl⟩⟩ := vals2 r
  refine min_two_ints (I.ok.hd hc) fun h' tk k => ⟨_, H, I.kept k, ?_, q⟩
  by_cases hj : j < i
  · rw [if_pos hj, if_pos hj]; exact ⟨_, rfl⟩
  · rw [if_neg hj, if_neg hj]; exact ⟨_, rfl⟩
end
end L2

namespace L2
open PySem PySem.Spec PyProof.Rows

/-! ### an instance, its attributes a map -/
structure ObjM (h : Heap) (x dx C : Addr) (mA : Str → Option Value) : Prop where
  obj : h.get? x = some (PySem.W.instObj C dx)
  ns : h.Ns1 dx mA
  ne : dx ≠ x

theorem lookIn_ns {h : Heap} {dx : Addr} {mA : Str → Option Value} (n : h.Ns1 dx mA) : ∃ od, h.get? dx = some od ∧ ∀ name, PySem.W.lookIn name od = some (mA name) := by
  obtain ⟨o, es, ep, ho, hd, hk, _, hm⟩ := n
  refine ⟨o, ho, fun name => ?_⟩
  have e := hm name
  unfold nsFind findBy at e
  rw [← Array.find?_toList] at e
  unfold PySem.W.lookIn
  rw [hd]
  dsimp only
  split
  · rename_i y q
    rw [q] at e
    exact congrArg some e
  · rename_i q
    rw [q] at e
    have a : es.toList.any (·.refKey) = false := by
      rw [List.any_eq_false]
      intro y hy
      obtain ⟨z, t, hkey⟩ := hk y (Array.mem_toList_iff.mp hy)
      simp [DictEntry.refKey, hkey]
    have a' : ¬ es.toList.any (·.refKey) = true := by rw [a]; exact Bool.false_ne_true
    rw [if_neg a']
    exact congrArg some e

theorem ObjM.look {h : Heap} {x dx C : Addr} {mA : Str → Option Value} (I : ObjM h x dx C mA) : ∃ od, PySem.W.InstAt h x (PySem.W.instObj C dx) C (some od) ∧ ∀ name, PySem.W.lookIn name od = some (mA name) :=
  let ⟨od, ho, hl⟩ := lookIn_ns I.ns
  ⟨od, ⟨I.obj, rfl, rfl, ho⟩, hl⟩

section
variable {prog : Program} {w : World} {A : Around} {E : Value → Shared → Prop} {s : Shared} {K : PySem.W.Frag} {x dx C f : Addr} {mA : Str → Option Value} {name : Str} {v : Value}

theorem get_map {expr : Bool} {Q : Value → Shared → Prop} (X : K.In s.heap) (I : ObjM s.heap x dx C mA) (hg : PySem.W.plainGet K C name = true) (hh : PySem.W.hasDictIn K C = true)
    (ha : PySem.W.findIn K (.ref C) name = some none) (hv : mA name = some v) (hv' : PySem.W.handedIn v = true) (h : Q v { s with toks := s.toks + 1 }) :
    wpAny (model prog w) A (getAttr (.ref x) name expr) Q E s := by
  obtain ⟨od, J, hl⟩ := I.look
  exact PySem.W.get_value X J (PySem.W.plainGet_of hg).1 (PySem.W.findObj_own hh ha rfl (by rw [hl, hv])) hv' h

theorem get_meth {pl : Sem Bool} {Q : Value × List Value → Shared → Prop} (X : K.In s.heap) (I : ObjM s.heap x dx C mA) (hg : PySem.W.plainGet K C name = true)
    (hf : PySem.W.findIn K (.ref C) name = some (some (.ref f))) (ht : PySem.W.isFn K (.ref f) = true) (hv : mA name = none) (h : Q (.ref f, [.ref x]) s) :
    wpAny (model prog w) A (getMethod (.ref x) name pl) Q E s := by
  obtain ⟨od, J, hl⟩ := I.look
  exact PySem.W.method_fn X J (PySem.W.plainGet_of hg).1 (PySem.W.plainGet_of hg).2 hf (beq_iff_eq.mp ht) (by show (PySem.W.lookIn name od).map (·.isSome) = some false; rw [hl, hv]; rfl) h

theorem set_map {ns : List Str} {Q : Unit → Shared → Prop} (X : K.In s.heap) (I : ObjM s.heap x dx C mA)
    (hs : PySem.W.findIn K (.ref C) "__setattr__" = some (some (.builtin "object.__setattr__"))) (hp : PySem.W.plainOver K C = true) (ht : PySem.W.takerIn K C name = some none) (hh : PySem.W.hasDictIn K C = true)
    (hw : PySem.Within mA ns) (hsz : ns.length ≤ sizeLine)
    (h : ∀ h', ObjM h' x dx C (fun y => if y = name then some v else mA y) → Heap.SameBut dx s.heap h' → Q () { s with heap := h', toks := s.toks + 2 }) :
    wpAny (model prog w) A (setAttr (.ref x) name v) Q E s := by
  obtain ⟨od, J, hl⟩ := I.look
  refine PySem.W.set_plain X J hs (PySem.W.osa_open (s := { s with toks := s.toks + 1 }) (r := none) X J hp ht fun b => ?_)
  obtain ⟨cd, hc, hd'⟩ := PySem.W.any_some hh
  have hx : s.heap.get? x = some ⟨.ref C, some dx, .plain, #[]⟩ := I.obj
  refine wpAny_bind (wpAny_pure (wpAny_bind (wpAny_bind (wpAny_loadPart hx (wpAny_bind (PySem.W.Looks.here (s := { s with toks := s.toks + 1 }) (PySem.W.looks_clsIn X hc) ?_))))))
  rw [hd']
  refine wpAny_pure (a := some dx) (wpAny_bind (wpAny_pure (wpAny_bind ?_)))
  refine wpAny_nsSet1 (s := { s with toks := s.toks + 1 }) I.ns fun h' hn2 hs2 => ?_
  obtain ⟨oD, esD, epD, hoD, hdD, hcD⟩ := hn2.count (PySem.Within.cons name v hw)
  refine wpAny_bind (wpAny_lookBehind hoD (by rw [hdD]; exact pastItsLine_dict (Nat.le_trans hcD (by rw [List.length_cons]; omega))) ?_)
  exact wpAny_pure (h _ ⟨(hs2.2 _ (Ne.symm I.ne)).trans I.obj, hn2, I.ne⟩ hs2)

/-- C(..): the dict at the heap's end, the instance behind it; then its __init__ -/
theorem make_map {R : Result → Shared → Prop} {vs : List Value} {kw : List (Str × Value)} (X : K.In s.heap) (hm : PySem.W.makesIn K C = true)
    (hi : PySem.W.findIn K (.ref C) "__init__" = some (some (.ref f))) (hf : PySem.W.typeIn K (.ref f) = some (.type "function"))
    (h : codeAny (model prog w) (A.under (.builtin "type.__call__" ⟨.ref C :: vs, kw⟩)) (.call (.ref f) ⟨.ref (s.heap.objs.size + 1) :: vs, kw⟩) (PySem.W.InitBack (s.heap.objs.size + 1) R)
      { s with heap := (s.heap.push PySem.W.emptyDict).push (PySem.W.instObj C s.heap.objs.size) }) :
    codeAny (model prog w) A (.call (.ref C) ⟨vs, kw⟩) R s := by
  obtain ⟨hh, g, d, t, os⟩ := s
  exact PySem.W.make_core (PySem.W.makes_of X hm) (PySem.W.looks_findIn X hi) (fun self => PySem.W.bind_fn X self hf) (.inl rfl) h
end

/-! ### the attributes as a list of pairs -/
def putF (f : Str) (v : V) : List (Str × V) → List (Str × V)
  | [] => [(f, v)]
  | (g, x) :: r => if g = f then (g, v) :: r else (g, x) :: putF f v r
theorem lookup_putF (f g : Str) (v : V) : ∀ fs : List (Str × V), (putF f v fs).lookup g = if g = f then some v else fs.lookup g
  | [] => by
    show List.lookup g [(f, v)] = _
    by_cases h : g = f
    · have hb : (g == f) = true := beq_iff_eq.mpr h
      simp only [List.lookup, hb, if_pos h]
    · have hb : (g == f) = false := beq_eq_false_iff_ne.mpr h
      simp only [List.lookup, hb, if_neg h]
  | (k, x) :: r => by
    have ih := lookup_putF f g v r
    rw [show putF f v ((k, x) :: r) = (if k = f then (k, v) :: r else (k, x) :: putF f v r) from rfl]
    by_cases hk : k = f
    · rw [if_pos hk]
      by_cases h : g = k
      · have hb : (g == k) = true := beq_iff_eq.mpr h
        simp only [List.lookup, hb, if_pos (h.trans hk)]
      · have hb : (g == k) = false := beq_eq_false_iff_ne.mpr h
        simp only [List.lookup, hb, if_neg (fun e : g = f => h (e.trans hk.symm))]
    · rw [if_neg hk]
      by_cases h : g = k
      · have hb : (g == k) = true := beq_iff_eq.mpr h
        simp only [List.lookup, hb, if_neg (fun e : g = f => hk (h.symm.trans e))]
      · have hb : (g == k) = false := beq_eq_false_iff_ne.mpr h
        simp only [List.lookup, hb]
        exact ih
theorem keys_putF (f : Str) (v : V) : ∀ fs : List (Str × V), f ∈ (putF f v fs).map (·.1) ∧ ∀ g, g ∈ fs.map (·.1) → g ∈ (putF f v fs).map (·.1)
  | [] => ⟨by simp [putF], fun g h => by simp at h⟩
  | (k, x) :: r => by
    obtain ⟨i1, i2⟩ := keys_putF f v r
    rw [show putF f v ((k, x) :: r) = (if k = f then (k, v) :: r else (k, x) :: putF f v r) from rfl]
    by_cases hk : k = f
    · rw [if_pos hk]
      subst hk
      exact ⟨by simp, fun g h => by simpa using h⟩
    · rw [if_neg hk]
      refine ⟨?_, fun g h => ?_⟩
      · rw [List.map_cons]
        exact List.mem_cons_of_mem _ i1
      · rw [List.map_cons] at h ⊢
        rcases List.mem_cons.mp h with e | e
        · exact List.mem_cons.mpr (.inl e)
        · exact List.mem_cons_of_mem _ (i2 g e)
theorem length_putF (f : Str) (v : V) : ∀ fs : List (Str × V), (putF f v fs).length ≤ fs.length + 1
  | [] => by simp [putF]
  | (k, x) :: r => by
    have ih := length_putF f v r
    rw [show putF f v ((k, x) :: r) = (if k = f then (k, v) :: r else (k, x) :: putF f v r) from rfl]
    by_cases hk : k = f
    · rw [if_pos hk, List.length_cons, List.length_cons]; omega
    · rw [if_neg hk, List.length_cons, List.length_cons]; omega

theorem RelO.some_of {v : V} {o : Option Value} (r : RelO (some v) o) : ∃ u, o = some u ∧ RelV v u := by
  cases o with
  | none => exact (show False from r).elim
  | some u => exact ⟨u, rfl, r⟩
theorem RelO.none_of {o : Option Value} (r : RelO none o) : o = none := by
  cases o with
  | none => rfl
  | some u => exact (show False from r).elim
theorem handed_of {v : V} {u : Value} (r : RelV v u) : PySem.W.handedIn u = true := by
  cases v with
  | non => cases (show u = Value.none from r); rfl
  | bl b => cases (show u = Value.bool b from r); rfl
  | int i => obtain ⟨t, e⟩ := (show ∃ t, u = Value.int i t from r); cases e; rfl
  | str x => obtain ⟨t, e⟩ := (show ∃ t, u = Value.str x t from r); cases e; rfl
  | byt b => obtain ⟨t, e⟩ := (show ∃ t, u = Value.bytes b t from r); cases e; rfl
  | flt b => obtain ⟨t, e⟩ := (show ∃ t, u = Value.float b t from r); cases e; rfl
  | ref a => cases (show u = Value.ref a from r); rfl
  | ty n => cases (show u = Value.type n from r); rfl

section
variable {P : Program} {w : World} {H H' : Hp} {h h' : Heap} {a C dx : Addr} {fs fs' : List (Str × V)}
theorem ins_get (hok : HOk P w H h) (e : H a = some (.ins C dx fs)) : ∃ mA, ObjM h a dx C mA ∧ (∀ f, RelO (fs.lookup f) (mA f)) ∧ PySem.Within mA (fs.map (·.1)) ∧ fs.length ≤ 1000 ∧ H dx = some (.own a) := by
  obtain ⟨d, z, ne, ob, mA, n, r, q⟩ := (show ObjOk P w H h a (.ins C dx fs) from hok a _ e)
  exact ⟨mA, ⟨ob, n, ne⟩, r, q, z, d⟩
end

/-! ### what of the text a class must have -/
structure Cls (K : PySem.W.Frag) (C : Addr) : Prop where
  pg : PySem.W.plainGet K C Str.empty = true
  hd : PySem.W.hasDictIn K C = true
  po : PySem.W.plainOver K C = true
  sa : PySem.W.findIn K (.ref C) "__setattr__" = some (some (.builtin "object.__setattr__"))
theorem Cls.get {K : PySem.W.Frag} {C : Addr} (c : Cls K C) (f : Str) : PySem.W.plainGet K C f = true := c.pg
/-- no class of it has the name -/
def NoAttr (K : PySem.W.Frag) (C : Addr) (f : Str) : Prop := PySem.W.findIn K (.ref C) f = some none
theorem NoAttr.taker {K : PySem.W.Frag} {C : Addr} {f : Str} (n : NoAttr K C f) : PySem.W.takerIn K C f = some none := by
  unfold PySem.W.takerIn
  rw [show PySem.W.findIn K (.ref C) f = some none from n]
  rfl
/-- a method: a plain def of the class or of one above it -/
structure Meth (K : PySem.W.Frag) (C : Addr) (m : Str) (f : Addr) : Prop where
  at_ : PySem.W.findIn K (.ref C) m = some (some (.ref f))
  fn : PySem.W.isFn K (.ref f) = true
  kp : PySem.W.keepIn K (.ref f) = true

section
variable {X : Cx} {pins : List (Addr × Obj)} {σ : St} {H : Hp} {s : Shared} {a C dx : Addr} {fs : List (Str × V)} {f : Str} {v : V} {A : Around} {E : Value → Shared → Prop}

theorem getattr_ok {b : Bool} {Q : Value → Shared → Prop} (I : Inv X pins σ H s) (e : H a = some (.ins C dx fs)) (c : Cls X.K C) (n : NoAttr X.K C f) (l : fs.lookup f = some v)
    (h : ∀ u s', Inv X pins σ H s' → RelV v u → Q u s') : wpAny (model X.prog X.w) A (getAttr (.ref a) f b) Q E s := by
  obtain ⟨mA, O, r, _, _, _⟩ := ins_get I.hok e
  obtain ⟨u, hu, ru⟩ := RelO.some_of (v := v) (o := mA f) (by rw [← l]; exact r f)
  exact get_map I.kIn O (c.get f) c.hd n hu (handed_of ru) (h u _ (I.tok _) ru)

theorem getmeth_ok {m : Str} {g : Addr} {pl : Sem Bool} {Q : Value × List Value → Shared → Prop} (I : Inv X pins σ H s) (e : H a = some (.ins C dx fs)) (c : Cls X.K C) (k : Meth X.K C m g) (l : fs.lookup m = none)
    (h : Q (.ref g, [.ref a]) s) : wpAny (model X.prog X.w) A (getMethod (.ref a) m pl) Q E s := by
  obtain ⟨mA, O, r, _, _, _⟩ := ins_get I.hok e
  have hn : mA m = none := RelO.none_of (by rw [← l]; exact r m)
  exact get_meth I.kIn O (c.get m) k.at_ k.fn hn h

theorem setattr_ok {y : V} {u : Value} {Q : Unit → Shared → Prop} (I : Inv X pins σ H s) (e : H a = some (.ins C dx fs)) (c : Cls X.K C) (n : NoAttr X.K C f) (hl : fs.length < 1000) (ry : RelV y u)
    (h : ∀ s', Inv X pins σ (upd H a (.ins C dx (putF f y fs))) s' → Q () s') : wpAny (model X.prog X.w) A (setAttr (.ref a) f u) Q E s := by
  obtain ⟨mA, O, r, wi, _, ho⟩ := ins_get I.hok e
  have hz : (fs.map (·.1)).length ≤ sizeLine := by rw [List.length_map, sizeLine_eq]; omega
  refine set_map I.kIn O c.sa c.po n.taker c.hd wi hz fun h' O' sb => h _ ?_
  have hd : ∃ o, h'.get? dx = some o := let ⟨o, _, _, e', _⟩ := O'.ns; ⟨o, e'⟩
  refine I.write (x := a) (e := dx) (by rw [e]; exact True.intro) (.inr ho) (fun b q hb z => (sb.2 b hb).trans z) hd ?_
  refine ⟨by rw [upd_ne O.ne]; exact ho, ?_, O.ne, O'.obj, _, O'.ns, fun g => ?_, fun g hg => ?_⟩
  · have := length_putF f y fs; omega
  · show RelO ((putF f y fs).lookup g) (if g = f then some u else mA g)
    rw [lookup_putF]
    by_cases q : g = f
    · rw [if_pos q, if_pos q]; exact ry
    · rw [if_neg q, if_neg q]; exact r g
  · by_cases q : g = f
    · rw [q]; exact (keys_putF f y fs).1
    · refine (keys_putF f y fs).2 g (wi g fun z => hg ?_)
      show (if g = f then some u else mA g) = none
      rw [if_neg q]; exact z

/-- a new instance, tracked, without attributes -/
theorem Inv.made (I : Inv X pins σ H s) : Inv X pins σ (upd (upd H s.heap.objs.size (.own (s.heap.objs.size + 1))) (s.heap.objs.size + 1) (.ins C s.heap.objs.size []))
    { s with heap := (s.heap.push PySem.W.emptyDict).push (PySem.W.instObj C s.heap.objs.size) } := by
  have e1 : (s.heap.push PySem.W.emptyDict).get? s.heap.objs.size = some PySem.W.emptyDict := Heap.get?_push_size s.heap rfl
  have e2 : ((s.heap.push PySem.W.emptyDict).push (PySem.W.instObj C s.heap.objs.size)).get? (s.heap.objs.size + 1) = some (PySem.W.instObj C s.heap.objs.size) := by
    have := Heap.get?_push_size (s.heap.push PySem.W.emptyDict) (o := PySem.W.instObj C s.heap.objs.size) rfl
    rwa [Heap.size_push] at this
  have e3 : (s.heap.push PySem.W.emptyDict).Ns s.heap.objs.size (fun _ => none) := ⟨PySem.W.emptyDict, #[], _, e1, rfl, (fun e he => absurd he (by simp)), fun _ => rfl⟩
  have I1 := I.laid (a := s.heap.objs.size) (o := .own (s.heap.objs.size + 1)) (h' := s.heap.push PySem.W.emptyDict) (t' := s.toks) (fun b u q => Heap.get?_push_of_some _ q) (Nat.le_refl _) ⟨_, e1⟩
  refine I1.laid (a := s.heap.objs.size + 1) (o := .ins C s.heap.objs.size []) (t' := s.toks) (fun b u q => Heap.get?_push_of_some _ q) (Nat.le_of_eq (Heap.size_push _ _)) ?_
  have ne : s.heap.objs.size ≠ s.heap.objs.size + 1 := Nat.ne_of_lt (Nat.lt_succ_self _)
  refine ⟨by rw [upd_ne ne, upd_same], Nat.zero_le _, ne, e2, fun _ => none, (Heap.Ns1.of_empty e3).at fun o q => Heap.get?_push_of_some _ q, fun _ => True.intro, fun y hy => absurd rfl hy⟩

/-- e.f where nothing but the object is asked: through attributeBase (super) and the last hold -/
theorem attr_of {prog : Program} {w : World} {env : Env} {e : Expr} {f : Str} {pos : Pos} {s : Shared} {Q : Value → Shared → Prop} (hb : attributeBase e f env (eval e env) = eval e env)
    (h : wpAny (model prog w) A (eval e env) (fun o s₁ => wpAny (model prog w) A (getAttr o f true) Q E s₁) E s) : wpAny (model prog w) A (eval (.Attribute e f pos) env) Q E s :=
  Attribute_any_ h (by rw [arm_eval_Attribute, hb])
end

/-! ### readings and rules -/
/-- e.f, an attribute of the instance -/
def tFld (K : PySem.W.Frag) (ta : TE) (f : Str) : TE := fun σ H Q => ta σ H fun x H1 => ∃ a C dx fs v, x = .ref a ∧ H1 a = some (.ins C dx fs) ∧ Cls K C ∧ NoAttr K C f ∧ fs.lookup f = some v ∧ Q v H1
/-- e.f = value -/
def sFld (K : PySem.W.Frag) (ta tv : TE) (f : Str) : TS := fun D σ H => tv σ H fun y H1 => ta σ H1 fun x H2 => ∃ a C dx fs, x = .ref a ∧ H2 a = some (.ins C dx fs) ∧ Cls K C ∧ NoAttr K C f ∧ fs.length < 1000 ∧
  D.nx σ (upd H2 a (.ins C dx (putF f y fs)))
/-- an augmented operator on two values -/
def InOp (X : Cx) (op : Operator) (rd : V → V → Hp → VK → Prop) : Prop :=
  ∀ (pins : List (Addr × Obj)) (s : Shared) (σ : St) (H : Hp) (x y : V) (u v : Value) (Q : VK), Inv X pins σ H s → RelV x u → RelV y v → rd x y H Q → wpAny (model X.prog X.w) X.A (inplaceOp op u v) (EP X pins σ Q) X.xe s
/-- e.f op= value -/
def sFldAug (K : PySem.W.Frag) (ta tv : TE) (rd : V → V → Hp → VK → Prop) (f : Str) : TS := fun D σ H => ta σ H fun x H1 => ∃ a C dx fs v, x = .ref a ∧ H1 a = some (.ins C dx fs) ∧ Cls K C ∧ NoAttr K C f ∧ fs.lookup f = some v ∧
  tv σ H1 fun y H2 => rd v y H2 fun z H3 => ∃ dx' fs', H3 a = some (.ins C dx' fs') ∧ fs'.length < 1000 ∧ D.nx σ (upd H3 a (.ins C dx' (putF f z fs')))

section
variable {X : Cx} {o e value : Expr} {f : Str} {pos pos' tpos : Pos} {ta tv : TE}
theorem pe_fld (he : PE X e ta) (hb : attributeBase e f X.env (eval e X.env) = eval e X.env) : PE X (.Attribute e f pos) (tFld X.K ta f) := by
  intro pins s σ H Q I h
  refine attr_of hb (thn (he pins s σ H _ I h) fun u s1 ⟨x, H1, I1, rx, a, C, dx, fs, v, ex, ea, c, n, l, q⟩ => ?_)
  subst ex
  obtain rfl : u = Value.ref a := rx
  exact getattr_ok I1 ea c n l fun u' s2 I2 ru => ⟨v, H1, I2, ru, q⟩
theorem ps_fld (ha : PE X o ta) (hv : PE X value tv) (hs : swapsWith value (some (.Attribute o f pos')) pos.line X.env = pure false) : PS X (.Assign [.Attribute o f pos'] value pos) (sFld X.K ta tv f) := by
  intro pins s σ H D I h
  refine plainObj_wpAny_Assign_Attribute (thn (hv pins s σ H _ I h) fun u s1 ⟨y, H1, I1, ry, q⟩ => thn (ha pins s1 σ H1 _ I1 q) fun ov s2 ⟨x, H2, I2, rx, a, C, dx, fs, ex, ea, c, n, l, q2⟩ => ?_) hs
  subst ex
  obtain rfl : ov = Value.ref a := rx
  exact setattr_ok I2 ea c n l ry fun s3 I3 => ⟨σ, _, I3, q2⟩
theorem ps_fldaug {op : Operator} {rd : V → V → Hp → VK → Prop} (ha : PE X o ta) (hv : PE X value tv) (hop : InOp X op rd) : PS X (.AugAssign (.Attribute o f tpos) op value pos) (sFldAug X.K ta tv rd f) := by
  intro pins s σ H D I h
  refine wpAny_AugAssign_AttributeAny (thn (ha pins s σ H _ I h) fun ov s1 ⟨x, H1, I1, rx, a, C, dx, fs, v, ex, ea, c, n, l, q⟩ => ?_)
  subst ex
  obtain rfl : ov = Value.ref a := rx
  refine getattr_ok I1 ea c n l fun u s2 I2 ru => thn (hv pins s2 σ H1 _ I2 q) fun w3 s3 ⟨y, H2, I3, ry, q3⟩ => thn (hop pins s3 σ H2 v y u w3 _ I3 ru ry q3) fun w4 s4 ⟨z, H3, I4, rz, dx', fs', ea', l', q4⟩ => ?_
  exact setattr_ok I4 ea' c n l' rz fun s5 I5 => ⟨σ, _, I5, q4⟩
def rAdd : V → V → Hp → VK → Prop := fun x y H Q => ∃ i j, x = .int i ∧ y = .int j ∧ Q (.int (i + j)) H
theorem in_add : InOp X .Add rAdd := by
  rintro pins s σ H x y u v Q I rx ry ⟨i, j, rfl, rfl, q⟩
  obtain ⟨t, rfl⟩ := (show ∃ t, u = Value.int i t from rx)
  obtain ⟨t', rfl⟩ := (show ∃ t', v = Value.int j t' from ry)
  exact PyProof.Rows.iadd_int ⟨.int (i + j), H, I.tok _, ⟨_, rfl⟩, q⟩
end

/-! ### isinstance -/
section
variable {X : Cx} {pins : List (Addr × Obj)} {σ : St} {H : Hp} {s : Shared} {A : Around} {E : Value → Shared → Prop} {Q : Value → Shared → Prop} {c : Value} {b : Bool}
end
end L2

namespace L2
open PySem PySem.Spec PyProof.Rows

/-! ### room -/
structure Room (k : Nat) (A : Around) : Prop where
  hd : A.handled = none
  dp : A.depth + 3 * k + 5 < recursionLimit
  un : A.units + 16 * k + 200 < cLine
theorem Room.mono {j k : Nat} {A : Around} (r : Room k A) (h : j ≤ k) : Room j A := ⟨r.hd, by have := r.dp; omega, by have := r.un; omega⟩
theorem Room.deeper {k : Nat} {A : Around} (r : Room (k + 1) A) (env : Env) : Room k (A.deeper env) :=
  ⟨r.hd, by have := r.dp; show A.depth + 1 + 3 * k + 5 < _; omega, by have := r.un; show A.units + 3 + 16 * k + 200 < _; omega⟩
theorem make_depth {A : Around} {C : Addr} {us : List Value} {kw : List (Str × Value)} : (A.under (.builtin "type.__call__" ⟨.ref C :: us, kw⟩)).depth = A.depth + 1 := by
  first | rfl | simp [Around.under, Code.weight, Code.isCreation, Code.isGuard, Code.isCaller, Code.frames, Code.isFrame, guardIds]
theorem make_units {A : Around} {C : Addr} {us : List Value} {kw : List (Str × Value)} : (A.under (.builtin "type.__call__" ⟨.ref C :: us, kw⟩)).units = A.units + 1 := by
  first | rfl | simp [Around.under, Code.cUnits, Code.frames, Code.isFrame]
theorem Room.make {k : Nat} {A : Around} (r : Room (k + 1) A) (C : Addr) (us : List Value) (kw : List (Str × Value)) : Room k (A.under (.builtin "type.__call__" ⟨.ref C :: us, kw⟩)) :=
  ⟨r.hd, by have := r.dp; rw [make_depth]; omega, by have := r.un; rw [make_units]; omega⟩
theorem Room.depth {k : Nat} {A : Around} (r : Room k A) : A.depth < recursionLimit := by have := r.dp; omega
theorem Room.units0 {k : Nat} {A : Around} (r : Room k A) : A.units < cLine := by have := r.un; omega

/-! ### argument lists and displays -/
def tNil : TA := fun _ H Q => Q [] H
def tCons (ta : TE) (tr : TA) : TA := fun σ H Q => ta σ H fun x H1 => tr σ H1 fun xs H2 => Q (x :: xs) H2
section
variable {X : Cx} {e : Expr} {es : List Expr} {te : TE} {t : TA} {pos : Pos}
theorem pa_nil : PA X [] tNil := fun _ _ _ _ H Q I h => Calls.spliced_nil ⟨[], H, I, .nil, h⟩
theorem pa_cons (ha : PE X e te) (hr : PA X es t) (hs : starEach (e :: es) X.env = (false, eval e X.env) :: starEach es X.env := by rfl) : PA X (e :: es) (tCons te t) := by
  intro pos pins s σ H Q I h
  rw [hs]
  show wpAny _ _ (spliced ((false, eval e X.env) :: backTo pos (starEach es X.env))) _ _ s
  refine Calls.spliced_cons (thn (ha pins s σ H _ I h) fun u s1 ⟨x, H1, I1, r1, q1⟩ => ?_)
  exact thn (hr pos pins s1 σ H1 _ I1 q1) fun us s2 ⟨xs, H2, I2, r2, q2⟩ => ⟨x :: xs, H2, I2, .cons r1 r2, q2⟩

/-- a tuple, a list of written items -/
def tTup (t : TA) : TE := fun σ H Q => t σ H fun xs H1 => xs.length ≤ sizeLine ∧ ∀ p, H1 p = none → Q (.ref p) (upd H1 p (.tup xs))
def tLst (t : TA) : TE := fun σ H Q => t σ H fun xs H1 => xs.length ≤ sizeLine ∧ ∀ p, H1 p = none → Q (.ref p) (upd H1 p (.lst xs))
theorem pe_tup {x1} (h : PA X es t) : PE X (.Tuple es x1 pos) (tTup t) := by
  intro pins s σ H Q I hq
  refine wpAny_Tuple_spliced (thn (h pos pins s σ H _ I hq) fun us s1 ⟨xs, H1, I1, r, z, q⟩ => ⟨by rw [← r.length]; exact z, ?_⟩)
  have hf : H1 s1.heap.objs.size = none := I1.hok.fresh (Nat.le_refl _)
  refine ⟨.ref s1.heap.objs.size, upd H1 s1.heap.objs.size (.tup xs), I1.laid (t' := s1.toks) (fun b u e => Heap.get?_push_of_some _ e) (Nat.le_refl _) ?_, rfl, q _ hf⟩
  exact ⟨z, us, r, ⟨_, Heap.get?_push_size _ rfl, rfl, _, rfl⟩⟩
theorem pe_lst (h : PA X es t) : PE X (.List es pos) (tLst t) := by
  intro pins s σ H Q I hq
  refine wpAny_List_spliced (thn (h pos pins s σ H _ I hq) fun us s1 ⟨xs, H1, I1, r, z, q⟩ => ⟨by rw [← r.length]; exact z, ?_⟩)
  have hf : H1 s1.heap.objs.size = none := I1.hok.fresh (Nat.le_refl _)
  refine ⟨.ref s1.heap.objs.size, upd H1 s1.heap.objs.size (.lst xs), I1.laid (t' := s1.toks) (fun b u e => Heap.get?_push_of_some _ e) (Nat.le_refl _) ?_, rfl, q _ hf⟩
  exact ⟨z, us, 0, r, Heap.get?_push_size _ rfl⟩
end

/-! ### what a def promises -/
/-- a def's promise: the bound arguments in the parameters' order, the heap, the wanted end, the wanted exception -/
abbrev Sp := List V → Hp → VK → XK → Prop
/-- how an exception lies behind a call (file 08 gives it): the callers' frames, abstract heap and state ahead of the call, the wish, the exception, the state -/
abbrev CXT := List Env → Hp → Shared → XK → Value → Shared → Prop

/-- the state at a call -/
structure Env0 (P : Program) (w : World) (K : PySem.W.Frag) (mg : Str → Option Value) (base : Heap) (A : Around) (outer : List Env) (s : Shared) (H : Hp) : Prop where
  frames : A.frames = some outer
  mod : Mod K mg base
  bs : ∀ b o, base.get? b = some o → s.heap.get? b = some o ∧ H b = none
  bsz : base.objs.size ≤ s.heap.objs.size
  funs : s.heap.FunFrames base outer
  frf : ∀ b ∈ frs outer, H b = none
  hok : HOk P w H s.heap
  bare : AllBare s.gens
/-- a call's end -/
def CE (outer : List Env) (P : Program) (w : World) (H : Hp) (s : Shared) (Q : VK) (u : Value) (s' : Shared) : Prop :=
  ∃ v H', s'.os = s.os ∧ AllBare s'.gens ∧ Un (frs outer) [] H H' s.heap s'.heap ∧ HOk P w H' s'.heap ∧ RelV v u ∧ Q v H'
def CR (CX : CXT) (outer : List Env) (P : Program) (w : World) (H : Hp) (s : Shared) (Q : VK) (E : XK) (r : Result) (s' : Shared) : Prop :=
  match r with
  | .ok (.ret u) => CE outer P w H s Q u s'
  | .ok _ => False
  | .error e => CX outer H s E e s'
structure FnOk (P : Program) (w : World) (K : PySem.W.Frag) (mg : Str → Option Value) (base : Heap) (CX : CXT) (k : Nat) (f : Addr) (fd : FuncData) (ps : List Str) (sp : Sp) : Prop where
  len : ∀ vs H Q E, sp vs H Q E → vs.length = ps.length
  run : ∀ (A : Around) (outer : List Env) (s : Shared) (H : Hp) (args : Args) (us : List Value) (vs : List V) (Q : VK) (E : XK), Room k A → Env0 P w K mg base A outer s H → BindsTo s fd args (ps.zip us) → Vals vs us → sp vs H Q E →
    codeAny (model P w) A (.call (.ref f) args) (CR CX outer P w H s Q E) s
theorem Env0.make {P : Program} {w : World} {K : PySem.W.Frag} {mg : Str → Option Value} {base : Heap} {A : Around} {outer : List Env} {s : Shared} {H : Hp} (e : Env0 P w K mg base A outer s H) (C : Addr) (us : List Value) (kw : List (Str × Value)) :
    Env0 P w K mg base (A.under (.builtin "type.__call__" ⟨.ref C :: us, kw⟩)) outer s H := ⟨by first | exact e.frames | (simpa [Around.under, Code.envs, Code.isFrame, pushEnvs] using e.frames), e.mod, e.bs, e.bsz, e.funs, e.frf, e.hok, e.bare⟩
section
variable {X : Cx} {pins : List (Addr × Obj)} {σ : St} {H : Hp} {s s' : Shared}
/-- from a body: what a callee wants -/
theorem Inv.env0 (I : Inv X pins σ H s) : Env0 X.prog X.w X.K X.mg X.base X.A X.stack s H :=
  ⟨I.ok.frames, I.ok.mod, I.bs, Nat.le_trans I.ok.bsz I.sz, I.stack, I.stkFree, I.hok, I.bare⟩
/-- behind a call -/
theorem Inv.after {Q : VK} {u : Value} (I : Inv X pins σ H s) (h : CE X.stack X.prog X.w H s Q u s') : EP X pins σ Q u s' := by
  obtain ⟨v, H', os, bare, un, hok, r, q⟩ := h
  obtain ⟨hh, g, d, t, os'⟩ := s'
  obtain rfl : os' = s.os := os
  exact ⟨v, H', I.call (h' := hh) (g' := g) (d' := d) (t' := t) (ch := []) un hok bare (fun b z => absurd z (by simp)), r, q⟩
end

/-! ### calls -/
/-- f(..): the written arguments, then the defaults dvs; E: what is wanted of an exception -/
def tCall (sp : Sp) (dvs : List V) (E : XK) (t : TA) : TE := fun σ H Q => t σ H fun vs H1 => sp (vs ++ dvs) H1 Q E
/-- o.m(..) of an instance of the class at C -/
def tMeth (C : Addr) (m : Str) (sp : Sp) (dvs : List V) (E : XK) (ta : TE) (t : TA) : TE := fun σ H Q => ta σ H fun x H1 => ∃ a dx fs, x = .ref a ∧ H1 a = some (.ins C dx fs) ∧ fs.lookup m = none ∧
  t σ H1 fun vs H2 => sp (x :: (vs ++ dvs)) H2 Q E
/-- C(..): a new instance and its dict, then __init__ -/
def tMake (C : Addr) (sp : Sp) (dvs : List V) (E : XK) (t : TA) : TE := fun σ H Q => t σ H fun vs H1 => ∀ x dx, H1 x = none → H1 dx = none → dx ≠ x →
  sp (.ref x :: (vs ++ dvs)) (upd (upd H1 dx (.own x)) x (.ins C dx [])) (fun v H2 => v = .non ∧ Q (.ref x) H2) E

/-- how the parameters are bound: us the positional arguments, kw the keywords' values by name, ds the defaults that fill up -/
def Binds (K : PySem.W.Frag) (fd : FuncData) (ps : List Str) (ds : List Value) : Prop :=
  ∀ (s : Shared) (us : List Value), K.In s.heap → (us ++ ds).length = ps.length → BindsTo s fd ⟨us, []⟩ (ps.zip (us ++ ds))
/-- every parameter is given -/
theorem Binds.all {K : PySem.W.Frag} {fd : FuncData} {ps : List Str} (h : ∀ us : List Value, us.length = ps.length → bindArgs fd ⟨us, []⟩ = pure (ps.zip us)) : Binds K fd ps [] := fun s us _ hl => by
  rw [List.append_nil] at hl ⊢
  exact .of_eq (h us hl)

/-- an exception of a callee reaches what this body wants of exceptions -/
def Passes (CX : CXT) (X : Cx) (E : XK) : Prop := ∀ (pins : List (Addr × Obj)) (σ : St) (H : Hp) (s : Shared) (e : Value) (s' : Shared), Inv X pins σ H s → CX X.stack H s E e s' → X.xe e s'

section
variable {X : Cx} {CX : CXT} {k : Nat} {f C : Addr} {fd : FuncData} {ps : List Str} {sp : Sp} {dvs : List V} {ds : List Value} {E : XK} {x m : Str} {p pos apos : Pos} {e o : Expr} {es : List Expr} {ta : TE} {t : TA}

/-- the callee runs -/
theorem run_fn {pins : List (Addr × Obj)} {σ : St} {H : Hp} {s : Shared} {Q : VK} {us : List Value} {vs : List V} (F : FnOk X.prog X.w X.K X.mg X.base CX k f fd ps sp) (hr : Room k X.A) (hb : Binds X.K fd ps ds) (hd : Vals dvs ds) (hx : Passes CX X E)
    (I : Inv X pins σ H s) (r : Vals vs us) (h : sp (vs ++ dvs) H Q E) : wpAny (model X.prog X.w) X.A (call (.ref f) us) (EP X pins σ Q) X.xe s := by
  have r2 : Vals (vs ++ dvs) (us ++ ds) := r.append hd
  have hl : (us ++ ds).length = ps.length := by rw [← r2.length]; exact F.len _ _ _ _ h
  refine wpAny_call (codeAny_mono (F.run X.A X.stack s H ⟨us, []⟩ (us ++ ds) (vs ++ dvs) Q E hr I.env0 (hb s us I.kIn hl) r2 h) fun r s' hq => ?_)
  cases r with
  | error e => exact hx pins σ H s e s' I hq
  | ok fl =>
    cases fl with
    | ret u => exact I.after hq
    | next => exact False.elim hq
    | brk => exact False.elim hq
    | cont => exact False.elim hq

theorem pe_call (F : FnOk X.prog X.w X.K X.mg X.base CX k f fd ps sp) (hr : Room k X.A) (hg : Gl X x) (hm : X.mg x = some (.ref f)) (hk : PySem.W.keepIn X.K (.ref f) = true) (hb : Binds X.K fd ps ds) (hd : Vals dvs ds) (hx : Passes CX X E)
    (ha : PA X (e :: es) t) (hdb : (x == ("__debug__" : Str)) = false := by decide) (he : starEach (e :: es) X.env = (false, eval e X.env) :: starEach es X.env := by rfl) (hpl : (backTo pos (starEach es X.env)).any (·.1) = false := by rfl) :
    PE X (.Call (.Name x p) (e :: es) [] pos) (tCall sp dvs E t) := by
  intro pins s σ H Q I h
  refine wpAny_Call_Name_kw (ld_glob I hg hm ?_ hdb)
  refine PySem.W.callWith_K (h₀ := X.base) I.ok.mod.kin hk (thn (ha pos pins s σ H _ I h) fun us s1 ⟨vs, H1, I1, r, q⟩ => ⟨I1.kIn, ?_⟩) he hpl
  exact run_fn F hr hb hd hx I1 r q
/-- o.m(e, ..) -/
theorem pe_meth {pl : Sem Bool} (he : PE X o ta) (c : Cls X.K C) (hm : Meth X.K C m f) (F : FnOk X.prog X.w X.K X.mg X.base CX k f fd ps sp) (hr : Room k X.A) (hb : Binds X.K fd ps ds) (hd : Vals dvs ds) (hx : Passes CX X E) (ha : PA X (e :: es) t)
    (hst : starEach (e :: es) X.env = (false, eval e X.env) :: starEach es X.env := by rfl) (hpl : (backTo pos (starEach es X.env)).any (·.1) = false := by rfl)
    (ht : eval (.Call (.Attribute o m apos) (e :: es) [] pos) X.env = (do
      let ov ← eval o X.env
      standAt apos.atName
      let (f, first) ← holding [ov] (getMethod ov m pl)
      callWith pos f first (backTo pos (starEach (e :: es) X.env)) (backToKw pos (keywordEach [] X.env))) := by rfl) :
    PE X (.Call (.Attribute o m apos) (e :: es) [] pos) (tMeth C m sp dvs E ta t) := by
  intro pins s σ H Q I h
  refine PySem.W.methodCall_KW (pl := pl) (thn (he pins s σ H _ I h) fun u s1 ⟨x, H1, I1, rx, a, dx, fs, ex, ea, l, q⟩ => ?_) ht
  subst ex
  obtain rfl : u = Value.ref a := rx
  refine getmeth_ok I1 ea c hm l ?_
  refine PySem.W.callWith_K (first := [.ref a]) (h₀ := X.base) I.ok.mod.kin hm.kp (thn (ha pos pins s1 σ H1 _ I1 q) fun us s2 ⟨vs, H2, I2, r, q2⟩ => ⟨I2.kIn, ?_⟩) hst hpl
  exact run_fn (us := .ref a :: us) (vs := .ref a :: vs) F hr hb hd hx I2 (.cons rfl r) q2
/-- o.m() -/
theorem pe_meth0 {pl : Sem Bool} (he : PE X o ta) (c : Cls X.K C) (hm : Meth X.K C m f) (F : FnOk X.prog X.w X.K X.mg X.base CX k f fd ps sp) (hr : Room k X.A) (hb : Binds X.K fd ps ds) (hd : Vals dvs ds) (hx : Passes CX X E)
    (ht : eval (.Call (.Attribute o m apos) [] [] pos) X.env = (do
      let ov ← eval o X.env
      standAt apos.atName
      let (f, first) ← holding [ov] (getMethod ov m pl)
      callWith pos f first (backTo pos (starEach [] X.env)) (backToKw pos (keywordEach [] X.env))) := by rfl) :
    PE X (.Call (.Attribute o m apos) [] [] pos) (tMeth C m sp dvs E ta tNil) := by
  intro pins s σ H Q I h
  refine PySem.W.methodCall_KW (pl := pl) (thn (he pins s σ H _ I h) fun u s1 ⟨x, H1, I1, rx, a, dx, fs, ex, ea, l, q⟩ => ?_) ht
  subst ex
  obtain rfl : u = Value.ref a := rx
  refine getmeth_ok I1 ea c hm l ?_
  exact PySem.W.callWith_K0 (first := [.ref a]) I1.kIn hm.kp (run_fn (us := [.ref a]) (vs := [.ref a]) F hr hb hd hx I1 (.cons rfl .nil) q)

/-- what a class must have to be made -/
structure Mk (K : PySem.W.Frag) (C f : Addr) : Prop where
  makes : PySem.W.makesIn K C = true
  init : PySem.W.findIn K (.ref C) "__init__" = some (some (.ref f))
  fn : PySem.W.isFn K (.ref f) = true
  kp : PySem.W.keepIn K (.ref C) = true

theorem run_make {pins : List (Addr × Obj)} {σ : St} {H : Hp} {s : Shared} {Q : VK} {us : List Value} {vs : List V} (M : Mk X.K C f) (F : FnOk X.prog X.w X.K X.mg X.base CX k f fd ps sp) (hr : Room (k + 1) X.A) (hb : Binds X.K fd ps ds) (hd : Vals dvs ds)
    (hx : Passes CX X E) (I : Inv X pins σ H s) (r : Vals vs us)
    (h : ∀ x dx, H x = none → H dx = none → dx ≠ x → sp (.ref x :: (vs ++ dvs)) (upd (upd H dx (.own x)) x (.ins C dx [])) (fun v H2 => v = .non ∧ Q (.ref x) H2) E) :
    wpAny (model X.prog X.w) X.A (call (.ref C) us) (EP X pins σ Q) X.xe s := by
  have hq := h (s.heap.objs.size + 1) s.heap.objs.size (I.hok.fresh (Nat.le_succ _)) (I.hok.fresh (Nat.le_refl _)) (Nat.ne_of_lt (Nat.lt_succ_self _))
  have I2 := Inv.made (C := C) I
  have r2 : Vals (V.ref (s.heap.objs.size + 1) :: (vs ++ dvs)) (Value.ref (s.heap.objs.size + 1) :: (us ++ ds)) := .cons rfl (r.append hd)
  have hl : (Value.ref (s.heap.objs.size + 1) :: us ++ ds).length = ps.length := by
    have e := r2.length
    rw [F.len _ _ _ _ hq] at e
    exact e.symm
  refine wpAny_call (make_map (f := f) I.kIn M.makes M.init (beq_iff_eq.mp M.fn) (codeAny_mono (F.run _ X.stack _ _ ⟨Value.ref (s.heap.objs.size + 1) :: us, []⟩ (Value.ref (s.heap.objs.size + 1) :: (us ++ ds)) _ _ E (hr.make C us [])
    (I2.env0.make C us []) (hb _ (Value.ref (s.heap.objs.size + 1) :: us) I2.kIn hl) r2 hq) fun r s' hq' => ?_))
  cases r with
  | error e => exact hx pins σ _ _ e s' I2 hq'
  | ok fl =>
    cases fl with
    | ret u =>
      obtain ⟨v, H', I3, rv, ev, q3⟩ := I2.after hq'
      subst ev
      exact ⟨rv, ⟨V.ref (s.heap.objs.size + 1), H', I3, rfl, q3⟩⟩
    | next => exact False.elim hq'
    | brk => exact False.elim hq'
    | cont => exact False.elim hq'
theorem pe_make (M : Mk X.K C f) (F : FnOk X.prog X.w X.K X.mg X.base CX k f fd ps sp) (hr : Room (k + 1) X.A) (hg : Gl X x) (hm : X.mg x = some (.ref C)) (hb : Binds X.K fd ps ds) (hd : Vals dvs ds) (hx : Passes CX X E)
    (ha : PA X (e :: es) t) (hdb : (x == ("__debug__" : Str)) = false := by decide) (he : starEach (e :: es) X.env = (false, eval e X.env) :: starEach es X.env := by rfl) (hpl : (backTo pos (starEach es X.env)).any (·.1) = false := by rfl) :
    PE X (.Call (.Name x p) (e :: es) [] pos) (tMake C sp dvs E t) := by
  intro pins s σ H Q I h
  refine wpAny_Call_Name_kw (ld_glob I hg hm ?_ hdb)
  refine PySem.W.callWith_K (h₀ := X.base) I.ok.mod.kin M.kp (thn (ha pos pins s σ H _ I h) fun us s1 ⟨vs, H1, I1, r, q⟩ => ⟨I1.kIn, ?_⟩) he hpl
  exact run_make M F hr hb hd hx I1 r q
end

section
variable {X : Cx} {CX : CXT} {k : Nat} {f C : Addr} {fd : FuncData} {ps ks : List Str} {sp : Sp} {E : XK} {x m : Str} {p pos apos kpos : Pos} {e o : Expr} {es : List Expr} {kws : List Keyword} {te ta : TE} {t tk : TA} {nm : Option Str}
variable {g : List Value → List Value → List Value} {gV : List V → List V → List V}
end

/-! ### a def's body keeps its promise -/
/-- names: the parameters first -/
structure FnScope (N P : List Str) (sc : Scope) : Prop where
  kind : sc.kind = .function
  co : sc.isCoroutine = false
  gen : sc.isGenerator = false
  nd : N.Nodup
  pre : N.take P.length = P
  par : ∀ x ∈ P, sc.names.lookup x = some .local ∨ sc.names.lookup x = some .cell
  nofree : ∀ y ∈ sc.names, y.2 ≠ .free

theorem bindL_out {kindOf : Str → Option NameKind} {x : Str} : ∀ {binds : List (Str × Value)} {m : Str → Option Value}, (∀ v, (x, v) ∉ binds) → bindL kindOf binds m x = m x
  | [], _, _ => rfl
  | (n, v) :: r, m, h => by
    unfold bindL
    rw [bindL_out fun w hw => h w (List.mem_cons_of_mem _ hw)]
    split
    · have : x ≠ n := by rintro rfl; exact h v List.mem_cons_self
      simp [this]
    · rfl
theorem bindC_out {kindOf : Str → Option NameKind} {x : Str} : ∀ {binds : List (Str × Value)} {m : Str → Option Value}, (∀ v, (x, v) ∉ binds) → bindC kindOf binds m x = m x
  | [], _, _ => rfl
  | (n, v) :: r, m, h => by
    unfold bindC
    rw [bindC_out fun w hw => h w (List.mem_cons_of_mem _ hw)]
    split
    · rfl
    · have : x ≠ n := by rintro rfl; exact h v List.mem_cons_self
      simp [this]
theorem bindL_get {kindOf : Str → Option NameKind} {x : Str} {v : Value} : ∀ {P : List Str} {vs : List Value} {i : Nat} {m : Str → Option Value}, P.Nodup → P[i]? = some x → vs[i]? = some v → kindOf x = some .local →
    bindL kindOf (P.zip vs) m x = some v
  | [], _, _, _, _, h, _, _ => by simp at h
  | _ :: _, [], _, _, _, _, h, _ => by simp at h
  | p :: P, w :: vs, 0, m, nd, h1, h2, hk => by
    simp at h1 h2; subst h1; subst h2
    show bindL kindOf ((p, w) :: P.zip vs) m p = _
    unfold bindL
    rw [bindL_out fun v hv => (List.nodup_cons.mp nd).1 (List.of_mem_zip hv).1, if_pos hk]
    simp
  | p :: P, w :: vs, i + 1, m, nd, h1, h2, hk => by
    show bindL kindOf ((p, w) :: P.zip vs) m x = _
    unfold bindL
    exact bindL_get (i := i) (List.nodup_cons.mp nd).2 (by simpa using h1) (by simpa using h2) hk
theorem bindC_get {kindOf : Str → Option NameKind} {x : Str} {v : Value} : ∀ {P : List Str} {vs : List Value} {i : Nat} {m : Str → Option Value}, P.Nodup → P[i]? = some x → vs[i]? = some v → kindOf x ≠ some .local →
    bindC kindOf (P.zip vs) m x = some v
  | [], _, _, _, _, h, _, _ => by simp at h
  | _ :: _, [], _, _, _, _, h, _ => by simp at h
  | p :: P, w :: vs, 0, m, nd, h1, h2, hk => by
    simp at h1 h2; subst h1; subst h2
    show bindC kindOf ((p, w) :: P.zip vs) m p = _
    unfold bindC
    rw [bindC_out fun v hv => (List.nodup_cons.mp nd).1 (List.of_mem_zip hv).1, if_neg hk]
    simp
  | p :: P, w :: vs, i + 1, m, nd, h1, h2, hk => by
    show bindC kindOf ((p, w) :: P.zip vs) m x = _
    unfold bindC
    exact bindC_get (i := i) (List.nodup_cons.mp nd).2 (by simpa using h1) (by simpa using h2) hk

/-- the names' values at the entry -/
def start (N : List Str) (vs : List V) : St := vs.map some ++ List.replicate (N.length - vs.length) none

/-- the context of a def's body, at its entry; an exception leaves the frame, then lies as CX says -/
def cxOf (CX : CXT) (P : Program) (w : World) (K : PySem.W.Frag) (mg : Str → Option Value) (base : Heap) (N : List Str) (qual : Str) (scope : Scope) (f : Addr) (cd : Value) (A : Around) (outer : List Env) (s : Shared) (H : Hp) (E : XK) : Cx where
  prog := P
  w := w
  K := K
  mg := mg
  base := base
  A := A.deeper (envOfC qual scope s.heap.objs.size f cd)
  N := N
  s_0 := s
  H_0 := H
  env := envOfC qual scope s.heap.objs.size f cd
  outer := outer
  stack := envOfC qual scope s.heap.objs.size f cd :: outer
  ex := []
  calm := true
  fn := fun _ => true
  pn := []
  xe := fun e s' => wpAny (model P w) (A.deeper (envOfC qual scope s.heap.objs.size f cd)) (leaving (envOfC qual scope s.heap.objs.size f cd) e) (fun _ s'' => CX outer H s E e s'') (fun e' s'' => CX outer H s E e' s'') s'

theorem cell_has {sc : Scope} {n : Nat} {x : Str} (h : sc.names.lookup x = some .cell) : ∃ c, (cellsFrom n sc.names []).lookup x = some c := by
  have q := PySem.W.cellsFrom_some sc.names n [] (.inl h)
  exact Option.isSome_iff_exists.mp q

theorem inv_start {CX : CXT} {P : Program} {w : World} {K : PySem.W.Frag} {mg : Str → Option Value} {base : Heap} {N ps : List Str} {qual : Str} {scope : Scope} {f : Addr} {cd : Value} {A : Around} {outer : List Env} {s s1 : Shared} {H : Hp} {E : XK} {us : List Value} {vs : List V}
    (S : FnScope N ps scope) (hd : A.handled = none) (e0 : Env0 P w K mg base A outer s H) (hl : vs.length = ps.length) (r : Vals vs us)
    (x : InCallC s s.heap.objs.size (bindL (envOfC qual scope s.heap.objs.size f cd).kindOf (ps.zip us) fun _ => none) (cellsFrom (s.heap.objs.size + 1) scope.names []) (bindC (envOfC qual scope s.heap.objs.size f cd).kindOf (ps.zip us) fun _ => none) s1) :
    Inv (cxOf CX P w K mg base N qual scope f cd A outer s H E) [] (start N vs) H s1 := by
  have hpl : ps.length ≤ N.length := by have := congrArg List.length S.pre; rw [List.length_take] at this; omega
  obtain ⟨h1, tk, rfl, hk⟩ := x.done
  have noA : ∀ b : Addr, b ∉ (cxOf CX P w K mg base N qual scope f cd A outer s H E).ex := fun b z => absurd (show b ∈ ([] : List Addr) from z) (by simp)
  refine ⟨⟨e0.mod, S.kind, rfl, rfl, Nat.le_refl _, fun y z c h1 h2 => ?_, fun y hy => ?_, fun y c _ h => ?_, fun _ => hd, Around.frames_deeper e0.frames, .inr ⟨rfl, rfl⟩, fun b z => absurd z (noA b), e0.bs, e0.bsz, fun b _ _ => noA b, fun b z => absurd z (noA b), e0.funs, e0.frf⟩,
    rfl, e0.bare, Un.kept hk, ⟨_, x.toInCall.ns, fun i y v h1 h2 h3 => ?_⟩, fun y c h => ⟨_, x.cell y c h⟩, e0.hok.fresh (Nat.le_refl _), fun y c h => ?_, fun p hp => absurd (show p ∈ ([] : List (Addr × Obj)) from hp) (by simp), e0.hok.kept hk, ?_⟩
  · exact name_of_addr x.apart (PySem.mem_of_lookup h1) (PySem.mem_of_lookup h2)
  · have hy : scope.names.lookup y = some .cell ∨ scope.names.lookup y = some .free := hy
    rcases hy with hy | hy
    · exact cell_has hy
    · exact absurd rfl (S.nofree _ (PySem.mem_of_lookup hy))
  · exact Nat.le_of_lt (x.above y c (PySem.mem_of_lookup h))
  · have hi : i < vs.length := by
      unfold start at h2
      by_cases hi : i < vs.length
      · exact hi
      · rw [List.getElem?_append_right (by simpa using hi)] at h2
        rw [List.getElem?_replicate] at h2
        split at h2 <;> cases h2
    have ha : vs[i]? = some v := by
      unfold start at h2
      rw [List.getElem?_append_left (by simpa using hi), List.getElem?_map] at h2
      cases e : vs[i]? with
      | none => rw [e] at h2; cases h2
      | some a => rw [e] at h2; cases h2; rfl
    obtain ⟨u, hu, rv⟩ := r.get ha
    have hp : ps[i]? = some y := by
      rw [← S.pre, List.getElem?_take_of_lt (by omega)]; exact h1
    have ndP : ps.Nodup := by rw [← S.pre]; exact S.nd.sublist (List.take_sublist _ _)
    refine ⟨u, rv, ?_⟩
    rcases S.par y (List.mem_of_getElem? hp) with k | k
    · exact .inl ⟨k, bindL_get ndP hp hu k⟩
    · obtain ⟨c, e⟩ := cell_has (n := s.heap.objs.size + 1) k
      refine .inr ⟨.inl k, c, e, ?_⟩
      have q := x.cell y c e
      rw [bindC_get ndP hp hu (by show scope.names.lookup y ≠ _; rw [k]; decide)] at q
      exact q
  · exact e0.hok.fresh (Nat.le_of_lt (x.above y c (PySem.mem_of_lookup h)))
  · unfold start
    show _ = N.length
    rw [List.length_append, List.length_map, List.length_replicate]
    omega

/-- THE RULE: a def (or a method) of the text, by its body. The body's reading t is chosen for each entry; it is run at the parameters' values -/
theorem fn_of {CX : CXT} {P : Program} {w : World} {K : PySem.W.Frag} {mg : Str → Option Value} {base : Heap} {k : Nat} {f : Addr} {name qual : Str} {params : Arguments} {body : List Stmt} {scope : Scope} {dV kV doc pm cdv ct oc : Value} {an od : Option Addr}
    {osl : Array (Option Value)} {N ps : List Str} {sp : Sp} (lk : K.lookup f = some ⟨oc, od, .func (PySem.W.fnOf name qual params body scope dV kV doc pm an cdv ct), osl⟩) (hcd : PySem.W.codeIn K cdv qual = true) (S : FnScope N ps scope)
    (len : ∀ vs H Q E, sp vs H Q E → vs.length = ps.length)
    (hbody : ∀ (A : Around) (outer : List Env) (s : Shared) (H : Hp) (vs : List V) (Q : VK) (E : XK), Room k (A.deeper (envOfC qual scope s.heap.objs.size f cdv)) → sp vs H Q E →
      ∃ t, PSs (cxOf CX P w K mg base N qual scope f cdv A outer s H E) body t ∧ t { nx := fun _ H' => Q .non H', rt := Q } (start N vs) H) :
    FnOk P w K mg base CX (k + 1) f (PySem.W.fnOf name qual params body scope dV kV doc pm an cdv ct) ps sp := by
  refine ⟨len, fun A outer s H args us vs Q E hr e0 hb r hsp => ?_⟩
  have hl := len _ _ _ _ hsp
  have KX : K.In s.heap := e0.mod.kin.keeps fun b o e => (e0.bs b o e).1
  have lim : s.heap.NoLimit := e0.mod.nolimit.keeps fun b o e => (e0.bs b o e).1
  have hkind : ∀ y ∈ ps.zip us, scope.names.lookup y.1 = some .local ∨ (scope.names.lookup y.1 = some .cell ∧ ((cellsFrom (s.heap.objs.size + 1) scope.names []).lookup y.1).isSome = true) := fun ⟨n, v⟩ hy => by
    rcases S.par n (List.of_mem_zip hy).1 with q | q
    · exact .inl q
    · exact .inr ⟨q, PySem.W.cellsFrom_some _ _ _ (.inl q)⟩
  refine codeAny_call_function hr.depth (KX _ _ lk) rfl S.co S.gen rfl (PySem.W.codeRec_of KX hcd) (hb _ _ _ _ ?_)
  refine wpAny_newFunctionEnv_cells S.kind hkind fun env he s1 x => ?_
  subst he
  refine ⟨lim.keeps x.toInCall.keep, codeAny_func ?_⟩
  obtain ⟨t, ht, hq⟩ := hbody A outer s H vs Q E (hr.deeper _) hsp
  have I : Inv (cxOf CX P w K mg base N qual scope f cdv A outer s H E) [] (start N vs) H s1 := inv_start S hr.hd e0 hl r x
  refine wpAny_mono (ht [] s1 (start N vs) H _ I hq) (fun fl s' hs => ?_) fun e s' hs => hs
  have fin : ∀ {σ' : St} {H' : Hp} {v : V} {u : Value}, Inv (cxOf CX P w K mg base N qual scope f cdv A outer s H E) [] σ' H' s' → RelV v u → Q v H' → CE outer P w H s Q u s' :=
    fun {σ' H' v u} J rv q => ⟨v, H', J.os, J.bare, J.base, J.hok, rv, q⟩
  cases fl with
  | ret u =>
    obtain ⟨v, σ', H', J, rv, q⟩ := hs
    exact fin J rv q
  | next =>
    obtain ⟨σ', H', J, q⟩ := hs
    exact fin (v := V.non) (u := Value.none) J rfl q
  | brk =>
    obtain ⟨_, _, _, q⟩ := hs
    exact False.elim q
  | cont =>
    obtain ⟨_, _, _, q⟩ := hs
    exact False.elim q
end L2

namespace L2
open PySem PySem.Spec PyProof.Rows
section
variable {X : Cx} {x : Str} {p pos : Pos} {e : Expr} {es : List Expr} {t : TA} {id T : String} {r : List V → Hp → VK → Prop}

def tCB (r : List V → Hp → VK → Prop) (t : TA) : TE := fun σ H Q => t σ H fun vs H1 => r vs H1 Q
/-- f(e, ..), f a built-in function -/
theorem pe_callB (hc : CallR X (.builtin id) r) (hg : Gl X x) (hm : X.mg x = none) (hv : bootBuiltins x = some (.builtin id)) (ha : PA X (e :: es) t) (hn : x ≠ "__name__" := by decide) (hdb : (x == ("__debug__" : Str)) = false := by decide)
    (he : starEach (e :: es) X.env = (false, eval e X.env) :: starEach es X.env := by rfl) (hpl : (backTo pos (starEach es X.env)).any (·.1) = false := by rfl) : PE X (.Call (.Name x p) (e :: es) [] pos) (tCB r t) := by
  intro pins s σ H Q I h
  refine wpAny_Call_Name_kw (ld_blt I hg hm hv ?_ hn hdb)
  exact PyProof.Rows.callWith_builtin1 (thn (ha pos pins s σ H _ I h) fun us s1 ⟨vs, H1, I1, r1, q1⟩ => hc pins s1 σ H1 vs us Q I1 r1 q1) he hpl
end
end L2

namespace HT
open PySem PyProof.Rows

theorem eqAt_int (A : Around) (s : Shared) (a : Int) (t : Tok) (c : Int) (u : Tok) : ∃ e, SeqAt.EqAt A s (.int a t) (.int c u) e ∧ (e = true ↔ a = c) :=
  ⟨(a == c), SeqAt.EqAt.int_int a t c u, by simp⟩
section
open PySem.SeqAt
open PySem.AutoSeq1 (wpAny_loadPart')
open PySem.MeetsSeq PySem.MeetsSeq2 PySem.MeetsSeq3

end

section
variable {prog : Program} {w : World} {A : Around} {E : Value → Shared → Prop} {s : Shared}

/-! ### t[a:b], not the whole -/
/-- a slice's bound as a place among n (d where it is left out) -/
def sIx (n d : Nat) : Option Int → Nat
  | none => d
  | some v => if v < 0 then (v + (n : Int)).toNat else min v.toNat n
theorem sIx_nat (n d k : Nat) : sIx n d (some (k : Int)) = min k n := by
  show (if (k : Int) < 0 then ((k : Int) + (n : Int)).toNat else min (k : Int).toNat n) = min k n
  rw [if_neg (by omega), Int.toNat_natCast]
end
end HT

namespace L2
open PySem PySem.Spec PyProof.Rows

/-! ### the parts of a slice -/
abbrev TO := St → Hp → (Option Int → Hp → Prop) → Prop
/-- a slice's part (left out, or an int) -/
def PO (X : Cx) (e : Option Expr) (t : TO) : Prop :=
  ∀ (pins : List (Addr × Obj)) (s : Shared) (σ : St) (H : Hp) (Q : Option Int → Hp → Prop), Inv X pins σ H s → t σ H Q →
    wpAny (model X.prog X.w) X.A (evalPart e X.env) (fun u s' => ∃ o H', Inv X pins σ H' s' ∧ IsPart u o ∧ Q o H') X.xe s
def tPart (t : TE) : TO := fun σ H Q => t σ H fun x H1 => ∃ i, x = .int i ∧ Q (some i) H1

theorem intsAre_of {ns : List Int} : ∀ {us : List Value}, Vals (ns.map V.int) us → IntsAre us ns := by
  induction ns with
  | nil => intro us r; rw [List.map_nil] at r; cases r; exact .nil
  | cons n ns ih =>
    intro us r
    rw [List.map_cons] at r
    cases r with
    | cons r1 r2 =>
      obtain ⟨t, e⟩ := r1
      subst e
      exact .cons n t (ih r2)

section
variable {X : Cx} {e : Expr} {te : TE} {lo hi : Option Expr} {tl th : TO} {pos p2 : Pos}

theorem po_some (h : PE X e te) : PO X (some e) (tPart te) := by
  intro pins s σ H Q I hw
  rw [evalPart_some]
  refine thn (h pins s σ H _ I hw) fun u s1 ⟨x, H1, I1, r1, q1⟩ => ?_
  obtain ⟨i, rfl, q⟩ := q1
  obtain ⟨t, rfl⟩ := r1
  exact ⟨some i, H1, I1, .int i t, q⟩

/-- what a slice of a value is, by values: the slice object stands at sl -/
def SlR (X : Cx) (r : V → Option Int → Option Int → Hp → VK → Prop) : Prop :=
  ∀ (pins : List (Addr × Obj)) (s : Shared) (σ : St) (H : Hp) (x : V) (v vl vu : Value) (lo hi : Option Int) (sl : Addr) (Q : VK), Inv X pins σ H s → RelV x v → s.heap.IsSliceOf sl vl vu .none → IsPart vl lo → IsPart vu hi → r x lo hi H Q →
    ∃ T id, typeLookup (.type T) "__getitem__" = pure (some (.builtin id)) ∧ s.TypeIs v T ∧ wpAny (model X.prog X.w) X.A (getItem v (.ref sl)) (EP X pins σ Q) X.xe s
def tSl (r : V → Option Int → Option Int → Hp → VK → Prop) (te : TE) (tl th : TO) : TE := fun σ H Q => te σ H fun x H1 => tl σ H1 fun l H2 => th σ H2 fun u H3 => r x l u H3 Q
/-- a[lo:hi], any a -/
theorem pe_slice {r : V → Option Int → Option Int → Hp → VK → Prop} (hr : SlR X r) (he : PE X e te) (hl : PO X lo tl) (hu : PO X hi th) : PE X (.Subscript e (.Slice lo hi none p2) pos) (tSl r te tl th) := by
  intro pins s σ H Q I h
  refine Subscript_ (thn (he pins s σ H _ I h) fun v s1 ⟨x, H1, I1, r1, q1⟩ => ?_)
  refine wpAny_Slice (thn (hl pins s1 σ H1 _ I1 q1) fun vl s2 ⟨l, H2, I2, pl, q2⟩ => thn (hu pins s2 σ H2 _ I2 q2) fun vu s3 ⟨u, H3, I3, pu, q3⟩ => ?_)
  rw [evalPart_none]
  refine wpAny_pure ?_
  have I4 : Inv X pins σ H3 { s3 with heap := s3.heap.push { cls := .type "slice", data := .fields #[vl, vu, .none] } } := I3.kept (t' := s3.toks) fun b ob q => Heap.get?_push_of_some _ q
  obtain ⟨T, id, hT, ht, hg⟩ := hr pins { s3 with heap := s3.heap.push { cls := .type "slice", data := .fields #[vl, vu, .none] } } σ H3 x v vl vu l u s3.heap.objs.size Q I4 r1 (Heap.IsSliceOf.new ..) pl pu q3
  show wpAny (model X.prog X.w) X.A (subscriptTail e (.Slice lo hi none p2) v (.ref s3.heap.objs.size)) (EP X pins σ Q) X.xe { s3 with heap := s3.heap.push { cls := .type "slice", data := .fields #[vl, vu, .none] } }
  exact tail_any (ops := [.ref s3.heap.objs.size, v]) ht hT hg (by with_unfolding_all rfl)

/-- the items of xs[lo:hi] -/
def cutV (xs : List V) (lo hi : Option Int) : List V := (xs.drop (HT.sIx xs.length 0 lo)).take (HT.sIx xs.length xs.length hi - HT.sIx xs.length 0 lo)
theorem cutV_length (xs : List V) (lo hi : Option Int) : (cutV xs lo hi).length ≤ xs.length := by
  unfold cutV
  rw [List.length_take, List.length_drop]
  omega
end
end L2

namespace L2
open PySem PySem.Spec PyProof.Rows

/-! ### places -/
/-- the place that an index of any sign means -/
def ixN (n : Nat) (i : Int) : Option Nat := if 0 ≤ i then (if i < n then some i.toNat else none) else if -(n : Int) ≤ i then some (i + n).toNat else none
def atI {α : Type} (xs : List α) (i : Int) : Option α := (ixN xs.length i).bind fun j => xs[j]?
theorem ixN_seq {n : Nat} {i : Int} {j : Nat} (h : ixN n i = some j) : seqIndex? i n = some j ∧ j < n ∧ -(n : Int) ≤ i ∧ i < n := by
  unfold ixN at h
  by_cases h0 : 0 ≤ i
  · rw [if_pos h0] at h
    by_cases h1 : i < n
    · rw [if_pos h1] at h
      have e : i.toNat = j := Option.some.inj h
      exact ⟨by rw [seqIndex_of h0 h1, e], by omega, by omega, h1⟩
    · rw [if_neg h1] at h; cases h
  · rw [if_neg h0] at h
    by_cases h1 : -(n : Int) ≤ i
    · rw [if_pos h1] at h
      have e : (i + n).toNat = j := Option.some.inj h
      exact ⟨by rw [seqIndex_neg (by omega) h1, e], by omega, h1, by omega⟩
    · rw [if_neg h1] at h; cases h
theorem atI_get {α : Type} {xs : List α} {i : Int} {v : α} (h : atI xs i = some v) : ∃ j, seqIndex? i xs.length = some j ∧ xs[j]? = some v ∧ j < xs.length ∧ -(xs.length : Int) ≤ i ∧ i < xs.length := by
  unfold atI at h
  cases e : ixN xs.length i with
  | none => rw [e] at h; cases h
  | some j =>
    rw [e] at h
    obtain ⟨h1, h2, h3, h4⟩ := ixN_seq e
    exact ⟨j, h1, h, h2, h3, h4⟩
theorem atI_nat {α : Type} {xs : List α} {j : Nat} {v : α} (h : xs[j]? = some v) : atI xs (j : Int) = some v := by
  have hj : j < xs.length := (List.getElem?_eq_some_iff.mp h).1
  have e : ixN xs.length (j : Int) = some j := by
    unfold ixN
    rw [if_pos (by omega), if_pos (by omega)]; simp
  unfold atI; rw [e]; exact h
theorem atI_last {α : Type} (xs : List α) (v : α) : atI (xs ++ [v]) (-1) = some v := by
  have hl : (xs ++ [v]).length = xs.length + 1 := by simp
  have e : ixN (xs ++ [v]).length (-1) = some xs.length := by
    unfold ixN
    rw [hl, if_neg (by decide), if_pos (by omega)]
    congr 1
    omega
  unfold atI
  rw [e]
  show (xs ++ [v])[xs.length]? = some v
  simp

/-! ### what may be subscripted -/
/-- what stands as an index of a plain subscript -/
def PlainIx (b : Expr) : Prop := ∀ o i, subscripted b false o i = operate [o, i] (getItem o i)
/-- a subscript by values -/
def IxR (X : Cx) (r : R2) : Prop :=
  ∀ (value slice : Expr) (pins : List (Addr × Obj)) (s : Shared) (σ : St) (H : Hp) (x y : V) (v u : Value) (Q : VK), Inv X pins σ H s → RelV x v → RelV y u → r x y H Q →
    subscripted slice false v u = operate [v, u] (getItem v u) → wpAny (model X.prog X.w) X.A (subscriptTail value slice v u) (EP X pins σ Q) X.xe s
/-- a call of a builtin's method by values: the receiver, the arguments -/
def MtR (X : Cx) (id : String) (r : V → List V → Hp → VK → Prop) : Prop :=
  ∀ (pins : List (Addr × Obj)) (s : Shared) (σ : St) (H : Hp) (x : V) (xs : List V) (v : Value) (us : List Value) (Q : VK), Inv X pins σ H s → RelV x v → Vals xs us → r x xs H Q →
    wpAny (model X.prog X.w) X.A (call (.builtin id) (v :: us)) (EP X pins σ Q) X.xe s
section
variable {X : Cx} {a b : Expr} {ta tb : TE} {pos : Pos}
/-- a[b] -/
theorem pe_ix {r : R2} (hr : IxR X r) (ha : PE X a ta) (hb : PE X b tb) (hs : PlainIx b) : PE X (.Subscript a b pos) (tOp r ta tb) := by
  intro pins s σ H Q I h
  exact Subscript_ (binT ha hb I h fun v u s2 x y H2 I2 rx ry q => hr a b pins s2 σ H2 x y v u Q I2 rx ry q (hs _ _))

def rIxL (K : PySem.W.Frag) : R2 := fun x y H Q => ∃ p xs i v, x = .ref p ∧ y = .int i ∧ SqL K H p xs ∧ atI xs i = some v ∧ Q v H
theorem ix_list : IxR X (rIxL X.K) := by
  intro value slice pins s σ H x y v u Q I rx ry h hs
  obtain ⟨p, xs, i, z, rfl, rfl, hq, he, q⟩ := h
  cases rx
  obtain ⟨t, rfl⟩ := ry
  obtain ⟨its, r, pl, hz⟩ := I.list hq
  obtain ⟨j, h1, h2, h3, h4, h5⟩ := atI_get he
  obtain ⟨w, ew, rw'⟩ := r.get h2
  have hl := r.length
  have hn := line63
  have fin : EP X pins σ Q w s := ⟨z, H, I, rw', q⟩
  by_cases h0 : 0 ≤ i
  · have hj : i.toNat = j := by
      rw [seqIndex_of h0 h5] at h1
      exact Option.some.inj h1
    exact item_listR pl.isList h0 (by omega) (by rw [hj]; simpa using ew) fin hs
  · have hj : (i + (its.toArray.size : Int)).toNat = j := by
      rw [seqIndex_neg (by omega) h4] at h1
      rw [List.size_toArray, ← hl]
      exact Option.some.inj h1
    exact subscriptTail_builtinR (x := w) pl.isList.typeIs slot_list_getitem.lookup
      (wpAny_getItem_list_neg (Q := fun r s' => r = w ∧ EP X pins σ Q r s') pl.isList (by omega) (by rw [List.size_toArray] <;> omega) (by omega) (by rw [hj]; simpa using ew) ⟨rfl, fin⟩) hs
/-! ### slices -/
theorem slice_bounds (lo hi : Option Int) (n : Nat) : (sliceBounds lo hi none n).1 = ((HT.sIx n 0 lo : Nat) : Int) ∧ (sliceBounds lo hi none n).2.1 = ((HT.sIx n n hi : Nat) : Int) ∧ (sliceBounds lo hi none n).2.2 = 1 := by
  refine ⟨?_, ?_, rfl⟩
  · cases lo with
    | none => simp [sliceBounds, HT.sIx]
    | some i =>
      simp only [sliceBounds, HT.sIx, Option.getD_none, show (1 : Int) > 0 by decide, if_true]
      by_cases h : i < 0
      · simp only [h, if_true] <;> omega
      · simp only [h, if_false] <;> omega
  · cases hi with
    | none => simp [sliceBounds, HT.sIx]
    | some i =>
      simp only [sliceBounds, HT.sIx, Option.getD_none, show (1 : Int) > 0 by decide, if_true]
      by_cases h : i < 0
      · simp only [h, if_true] <;> omega
      · simp only [h, if_false] <;> omega
theorem slicePick_cut (its : List Value) (lo hi : Option Int) : slicePick its.toArray lo hi none = ((its.drop (HT.sIx its.length 0 lo)).take (HT.sIx its.length its.length hi - HT.sIx its.length 0 lo)).toArray := by
  obtain ⟨h1, h2, h3⟩ := slice_bounds lo hi its.toArray.size
  unfold slicePick
  rw [h1, h2, h3]
  simp only [sliceRange_one, pick_run, List.size_toArray] <;> rfl
/-- xs[lo:hi] of a list: a new list -/
def rSlL (K : PySem.W.Frag) : V → Option Int → Option Int → Hp → VK → Prop := fun x lo hi H Q => ∃ a xs, x = .ref a ∧ SqL K H a xs ∧ ∀ p, H p = none → Q (.ref p) (upd H p (.lst (cutV xs lo hi)))
theorem sl_list : SlR X (rSlL X.K) := by
  intro pins s σ H x v vl vu lo hi sl Q I rx hs pl pu h
  obtain ⟨a, xs, rfl, hx, q⟩ := h
  cases rx
  obtain ⟨its, r, ht, hz⟩ := I.list hx
  have hlen := r.length
  refine ⟨"list", _, slot_list_getitem.lookup, ht.isList.typeIs, ?_⟩
  refine wpAny_getItem_list_slice ht.isList hs pl pu .none (by simp) ?_ (by rw [List.size_toArray] <;> omega)
  rw [slicePick_cut, ← hlen]
  refine ⟨.ref s.heap.objs.size, _, I.laid (t' := s.toks) (o := .lst (cutV xs lo hi)) (fun b ob q => Heap.get?_push_of_some _ q) (Nat.le_refl _) ?_, rfl, q _ (I.hok.fresh (Nat.le_refl _))⟩
  exact ⟨Nat.le_trans (cutV_length xs lo hi) hz, _, 0, (r.drop (HT.sIx xs.length 0 lo)).take (HT.sIx xs.length xs.length hi - HT.sIx xs.length 0 lo), Heap.get?_push_size _ rfl⟩

/-! ### in, not in: flat items -/
def flatV : V → Bool
  | .non => true
  | .bl _ => true
  | .int _ => true
  | .str _ => true
  | _ => false
/-- == of flat values -/
def eqV : V → V → Bool
  | .non, .non => true
  | .bl a, .bl b => a == b
  | .bl a, .int b => (if a then 1 else 0) == b
  | .int a, .bl b => a == (if b then 1 else 0)
  | .int a, .int b => a == b
  | .str a, .str b => a == b
  | _, _ => false
theorem eqAt_V {A : Around} {s : Shared} {y x : V} {u v : Value} (ry : RelV y u) (rx : RelV x v) (fy : flatV y = true) (fx : flatV x = true) : SeqAt.EqAt A s u v (eqV y x) := by
  cases y with
  | non =>
    cases ry
    cases x with
    | non => cases rx; exact SeqAt.EqAt.same _
    | bl b => cases rx; exact SeqAt.EqAt.none_bool b
    | int b => obtain ⟨t, rfl⟩ := rx; exact SeqAt.EqAt.none_int b t
    | str b => obtain ⟨t, rfl⟩ := rx; exact SeqAt.EqAt.none_str b t
    | _ => exact absurd (show false = true from fx) Bool.false_ne_true
  | bl a =>
    cases ry
    cases x with
    | non => cases rx; exact SeqAt.EqAt.bool_none a
    | bl b => cases rx; exact SeqAt.EqAt.bool_bool a b
    | int b => obtain ⟨t, rfl⟩ := rx; exact SeqAt.EqAt.bool_int a b t
    | str b => obtain ⟨t, rfl⟩ := rx; exact SeqAt.EqAt.bool_str a b t
    | _ => exact absurd (show false = true from fx) Bool.false_ne_true
  | int a =>
    obtain ⟨t', rfl⟩ := ry
    cases x with
    | non => cases rx; exact SeqAt.EqAt.int_none a t'
    | bl b => cases rx; exact SeqAt.EqAt.int_bool a t' b
    | int b => obtain ⟨t, rfl⟩ := rx; exact SeqAt.EqAt.int_int a t' b t
    | str b => obtain ⟨t, rfl⟩ := rx; exact SeqAt.EqAt.int_str a t' b t
    | _ => exact absurd (show false = true from fx) Bool.false_ne_true
  | str a =>
    obtain ⟨t', rfl⟩ := ry
    cases x with
    | non => cases rx; exact SeqAt.EqAt.str_none a t'
    | bl b => cases rx; exact SeqAt.EqAt.str_bool a t' b
    | int b => obtain ⟨t, rfl⟩ := rx; exact SeqAt.EqAt.str_int a t' b t
    | str b => obtain ⟨t, rfl⟩ := rx; exact SeqAt.EqAt.str_str a t' b t
    | _ => exact absurd (show false = true from fx) Bool.false_ne_true
  | _ => exact absurd (show false = true from fy) Bool.false_ne_true
/-- the items' answers, read off the values (a value's own answer does not lean on its token) -/
def eqU (x : V) (u : Value) : Bool := match u with
  | .none => eqV .non x
  | .bool b => eqV (.bl b) x
  | .int i _ => eqV (.int i) x
  | .str z _ => eqV (.str z) x
  | _ => false
theorem eqU_of {x y : V} {u : Value} (r : RelV y u) (f : flatV y = true) : eqU x u = eqV y x := by
  cases y with
  | non => cases r; rfl
  | bl b => cases r; rfl
  | int i => obtain ⟨t, rfl⟩ := r; rfl
  | str z => obtain ⟨t, rfl⟩ := r; rfl
  | _ => exact absurd (show false = true from f) Bool.false_ne_true
theorem any_eqU {x : V} : ∀ {xs : List V} {us : List Value}, Vals xs us → xs.all flatV = true → us.any (eqU x) = xs.any fun y => eqV y x
  | _, _, .nil, _ => rfl
  | y :: xs, u :: us, .cons r t, f => by
    rw [List.all_cons, Bool.and_eq_true] at f
    rw [List.any_cons, List.any_cons, eqU_of r f.1, any_eqU t f.2]
theorem mem_eqAt {A : Around} {s : Shared} {x : V} {v : Value} (rx : RelV x v) (fx : flatV x = true) : ∀ {xs : List V} {us : List Value}, Vals xs us → xs.all flatV = true → ∀ u ∈ us, SeqAt.EqAt A s u v (eqU x u)
  | _, _, .nil, _ => fun u hu => by cases hu
  | y :: xs, u :: us, .cons r t, f => fun u' hu => by
    rw [List.all_cons, Bool.and_eq_true] at f
    rcases List.mem_cons.mp hu with rfl | hu
    · rw [eqU_of r f.1]; exact eqAt_V r rx f.1 fx
    · exact mem_eqAt rx fx t f.2 u' hu
def inV (x : V) (xs : List V) : Bool := xs.any fun y => eqV y x
/-- x in a list or tuple of flat items -/
def rIn (K : PySem.W.Frag) (neg : Bool) : R2 := fun x y H Q => ∃ p xs, y = .ref p ∧ (SqL K H p xs ∨ SqT K H p xs) ∧ flatV x = true ∧ xs.all flatV = true ∧ Q (.bl (if neg then !inV x xs else inV x xs)) H
theorem op_in_seq : OpR X (compareOp .In) (rIn X.K false) := by
  intro pins s σ H x y v u Q I rx ry h
  obtain ⟨p, xs, rfl, hq, fx, fs, q⟩ := h
  cases ry
  rcases hq with hq | hq
  · obtain ⟨its, r, pl, hz⟩ := I.list hq
    refine SeqAt.in_listAt (eqU x) pl.isList (fun w hw => mem_eqAt rx fx r fs w (by simpa using hw)) ⟨.bl _, H, I, rfl, ?_⟩
    rw [show its.toArray.any (eqU x) = its.any (eqU x) by simp, any_eqU r fs]
    exact q
  · obtain ⟨its, r, pl, hz⟩ := I.tuple hq
    refine SeqAt.in_tupleAt (eqU x) pl (fun w hw => mem_eqAt rx fx r fs w (by simpa using hw)) ⟨.bl _, H, I, rfl, ?_⟩
    rw [show its.toArray.any (eqU x) = its.any (eqU x) by simp, any_eqU r fs]
    exact q
/-! ### len, list(x), tuple(x) of any list or tuple that is read -/
theorem call_len_seq : CallR X (.builtin "len") (fun xs H Q => ∃ p ys, xs = [.ref p] ∧ (SqL X.K H p ys ∨ SqT X.K H p ys) ∧ Q (.int ys.length) H) := by
  intro pins s σ H xs us Q I r h
  obtain ⟨p, ys, rfl, hq, q⟩ := h
  obtain ⟨u, rfl, rx⟩ := vals1 r
  cases rx
  have hn := line63
  rcases hq with hq | hq
  · obtain ⟨its, r', pl, hz⟩ := I.list hq
    have hlen := r'.length
    exact Calls.call_len_list pl.isList (by simp only [List.size_toArray] <;> omega) ⟨.int ys.length, H, I.tok _, ⟨s.toks + 1, by rw [List.size_toArray, hlen]⟩, q⟩
  · obtain ⟨its, r', pl, hz⟩ := I.tuple hq
    have hlen := r'.length
    exact len_tuple pl (by simp only [List.size_toArray] <;> omega) ⟨.int ys.length, H, I.tok _, ⟨s.toks + 1, by rw [List.size_toArray, hlen]⟩, q⟩
/-! ### the call of a builtin's method: o.m(..) -/
/-- the value is of that builtin type -/
def tyV (K : PySem.W.Frag) (T : String) (x : V) (H : Hp) : Prop := match x with
  | .str _ => T = "str"
  | .int _ => T = "int"
  | .ref p => (T = "list" ∧ ∃ xs, SqL K H p xs) ∨ (T = "tuple" ∧ ∃ o, K.lookup p = some o ∧ o.cls = .type "tuple" ∧ o.dict = none) ∨
      (T = "dict" ∧ ((∃ kvs, H p = some (.dK kvs)) ∨ ∃ kvs, H p = some (.dT kvs))) ∨ (T = "set" ∧ ∃ S n, H p = some (.set S n))
  | _ => False
theorem tyV_is {pins : List (Addr × Obj)} {σ : St} {H : Hp} {s : Shared} {T : String} {x : V} {v : Value} (I : Inv X pins σ H s) (r : RelV x v) (ty : tyV X.K T x H) :
    s.TypeIs v T ∧ ∀ a, v = .ref a → ∃ ob, s.heap.get? a = some ob ∧ ob.dict = none := by
  cases x with
  | str z =>
    obtain ⟨t, rfl⟩ := r
    cases (show T = "str" from ty)
    exact ⟨typeIs_str s z t, fun _ e => nomatch e⟩
  | int i =>
    obtain ⟨t, rfl⟩ := r
    cases (show T = "int" from ty)
    exact ⟨typeIs_int s i t, fun _ e => nomatch e⟩
  | ref p =>
    cases r
    rcases ty with ⟨rfl, xs, hq⟩ | ⟨rfl, o, hk, hc, hd⟩ | ⟨rfl, hk⟩ | ⟨rfl, S, n, hk⟩
    · obtain ⟨its, _, pl, _⟩ := I.list hq
      refine ⟨pl.isList.typeIs, fun a e => ?_⟩
      cases e
      obtain ⟨o, n, e, c, hd, _⟩ := pl
      exact ⟨o, e, hd⟩
    · refine ⟨⟨o, I.kIn p o hk, hc⟩, fun a e => ?_⟩
      cases e
      exact ⟨o, I.kIn _ o hk, hd⟩
    · have z : ∃ o, s.heap.get? p = some o ∧ o.ExactDict := by
        rcases hk with ⟨kvs, hk⟩ | ⟨kvs, hk⟩
        · obtain ⟨_, _, _, _, o, _, _, e, ex, _⟩ := I.hok p _ hk
          exact ⟨o, e, ex⟩
        · obtain ⟨_, _, _, _, o, _, _, e, ex, _⟩ := I.hok p _ hk
          exact ⟨o, e, ex⟩
      obtain ⟨o, e, ex⟩ := z
      refine ⟨⟨o, e, ex.1⟩, fun a e2 => ?_⟩
      cases e2
      exact ⟨o, e, ex.2.1⟩
    · obtain ⟨o, _, _, _, e, ex, _⟩ := I.hok p _ hk
      refine ⟨⟨o, e, ex.1⟩, fun a e2 => ?_⟩
      cases e2
      exact ⟨o, e, ex.2.1⟩
  | _ => exact False.elim ty
def tBM0 (K : PySem.W.Frag) (T : String) (r : V → List V → Hp → VK → Prop) (to : TE) : TE := fun σ H Q => to σ H fun x H1 => tyV K T x H1 ∧ r x [] H1 Q
def tBM (K : PySem.W.Frag) (T : String) (r : V → List V → Hp → VK → Prop) (to : TE) (t : TA) : TE := fun σ H Q => to σ H fun x H1 => tyV K T x H1 ∧ t σ H1 fun xs H2 => r x xs H2 Q
variable {o e : Expr} {es : List Expr} {to : TE} {t : TA} {name : Str} {apos cpos : Pos} {T id : String} {r : V → List V → Hp → VK → Prop}
theorem pe_bm0 (pa : PlainAttrs T) (slot : Slot T name id) (hty : typeOf (.builtin id) = pure (.type "method_descriptor")) (hm : MtR X id r) (ho : PE X o to)
    (hbase : attributeBase o name X.env (eval o X.env) = eval o X.env := by rfl) (hline : (apos.endLine == cpos.line) = true := by rfl) : PE X (.Call (.Attribute o name apos) [] [] cpos) (tBM0 X.K T r to) := by
  intro pins s σ H Q I h
  refine wpAny_Call_method0_late hbase hline (thn (ho pins s σ H _ I h) fun v s1 ⟨x, H1, I1, r1, ty, q1⟩ => ?_)
  obtain ⟨h1, h2⟩ := tyV_is I1 r1 ty
  exact ⟨T, id, pa, slot, hty, h1, h2, Calls.callWith_builtin rfl (PySem.evalArgs_none (hm pins s1 σ H1 x [] v [] Q I1 r1 .nil q1))⟩
theorem pe_bm (pa : PlainAttrs T) (slot : Slot T name id) (hty : typeOf (.builtin id) = pure (.type "method_descriptor")) (hm : MtR X id r) (ho : PE X o to) (ha : PA X (e :: es) t)
    (hbase : attributeBase o name X.env (eval o X.env) = eval o X.env := by rfl)
    (hfew : ((backTo cpos (starEach (e :: es) X.env)).all (fun x => !x.1) && (backToKw cpos (keywordEach [] X.env)).all (fun x => x.1.isSome)
      && decide ((e :: es).length + ([] : List Keyword).length + (if ([] : List Keyword).isEmpty then 0 else 1) < 30)) = true := by rfl)
    (hline : (apos.endLine == cpos.line) = true := by rfl) (hs : starEach (e :: es) X.env = (false, eval e X.env) :: starEach es X.env := by rfl) (hplain : (backTo cpos (starEach es X.env)).any (·.1) = false := by rfl) :
    PE X (.Call (.Attribute o name apos) (e :: es) [] cpos) (tBM X.K T r to t) := by
  intro pins s σ H Q I h
  refine wpAny_Call_method_late hbase hfew hline rfl (thn (ho pins s σ H _ I h) fun v s1 ⟨x, H1, I1, r1, ty, q1⟩ => ?_)
  obtain ⟨h1, h2⟩ := tyV_is I1 r1 ty
  refine ⟨T, id, pa, slot, hty, h1, h2, ?_⟩
  have hA := ha cpos pins s1 σ H1 _ I1 q1
  rw [hs] at hA ⊢
  refine Calls.callWith_builtin (by show (false || (backTo cpos (starEach es X.env)).any (·.1)) = false; rw [hplain] <;> rfl) (Calls.evalArgs_plain ?_)
  exact thn hA fun us s2 ⟨vs, H2, I2, r2, q2⟩ => hm pins s2 σ H2 x vs v us Q I2 r1 r2 q2
/- xs.append(e), list.index on a module's tuple .. are MtR facts of 06m -/
end
end L2

namespace L2
open PySem PySem.Spec PyProof.Rows

def MtM (X : Cx) (id : String) (r : V → List V → Hp → VK → Prop) : Prop :=
  ∀ (pins : List (Addr × Obj)) (s : Shared) (σ : St) (H : Hp) (x : V) (xs : List V) (v : Value) (us : List Value) (Q : VK), Inv X pins σ H s → RelV x v → Vals xs us → r x xs H Q →
    wpAny (model X.prog X.w) X.A (call (.builtin id) (v :: us)) (EP X pins σ Q) X.xe s

/-! ### lists of values -/
theorem Vals.one : ∀ {x : V} {us : List Value}, Vals [x] us → ∃ u, us = [u] ∧ RelV x u
  | _, _, .cons r .nil => ⟨_, rfl, r⟩
theorem Vals.zero : ∀ {us : List Value}, Vals [] us → us = []
  | _, .nil => rfl
theorem Vals.dropLast {xs : List V} {us : List Value} (h : Vals xs us) : Vals xs.dropLast us.dropLast := by
  induction h with
  | nil => exact .nil
  | cons r t ih =>
    cases t with
    | nil => exact .nil
    | cons q t' => exact .cons r ih
theorem erase_last {α : Type} (l : List α) : l.eraseIdx (l.length - 1) = l.dropLast := by
  induction l with
  | nil => rfl
  | cons a r ih =>
    cases r with
    | nil => rfl
    | cons b r =>
      have e : (a :: b :: r).length - 1 = ((b :: r).length - 1) + 1 := by
        have h1 : (a :: b :: r).length = r.length + 2 := rfl
        have h2 : (b :: r).length = r.length + 1 := rfl
        omega
      rw [e, List.eraseIdx_cons_succ, ih]
      all_goals rfl
section
variable {X : Cx} {pins : List (Addr × Obj)} {σ : St} {H : Hp} {s : Shared} {l b : Addr} {xs ys zs : List V}

/-! ### the two steps: a tracked list is rewritten, a new list is laid -/
theorem Inv.lset {its its' : List Value} {n : Nat} {f : Array Value → Array Value} {t' : Nat} (I : Inv X pins σ H s) (hH : H l = some (.lst xs))
    (e : s.heap.get? l = some { cls := .type "list", data := .seq its.toArray n }) (hf : f its.toArray = its'.toArray) (hv : Vals ys its') (hz : ys.length ≤ sizeLine) :
    Inv X pins σ (upd H l (.lst ys)) { s with heap := s.heap.update l (Obj.mapSeq f), toks := t' } := by
  have q := PySem.IsL.update e f
  rw [hf] at q
  refine I.write (x := l) (e := l) (by rw [hH]; exact trivial) (.inl rfl) (fun b' u hb hu => (Heap.get?_update_other s.heap (Obj.mapSeq f) (Ne.symm hb)).trans hu) ⟨_, q⟩ ?_
  exact ⟨hz, its', _, hv, q⟩
theorem Inv.lnew {its : List Value} {t' : Nat} (I : Inv X pins σ H s) (hv : Vals ys its) (hz : ys.length ≤ sizeLine) :
    Inv X pins σ (upd H s.heap.objs.size (.lst ys)) { s with heap := s.heap.push { cls := .type "list", data := .seq its.toArray }, toks := t' } :=
  I.laid (fun _ _ q => Heap.get?_push_of_some _ q) (Nat.le_refl _) ⟨hz, its, 0, hv, Heap.get?_push_size _ rfl⟩
theorem Inv.fresh (I : Inv X pins σ H s) : H s.heap.objs.size = none := I.hok.fresh (Nat.le_refl _)
theorem Inv.lstM (I : Inv X pins σ H s) (hH : H l = some (.lst xs)) : xs.length ≤ sizeLine ∧ ∃ (its : List Value) (n : Nat), Vals xs its ∧ xs.length = its.length ∧ s.heap.get? l = some { cls := .type "list", data := .seq its.toArray n } := by
  obtain ⟨z, its, n, r, e⟩ := I.hok l _ hH
  exact ⟨z, its, n, r, r.length, e⟩

end

section
variable {X : Cx}

/-! ### methods -/
def rAppend : V → List V → Hp → VK → Prop := fun x vs H Q => ∃ l xs y, x = .ref l ∧ vs = [y] ∧ H l = some (.lst xs) ∧ xs.length < sizeLine ∧ Q .non (upd H l (.lst (xs ++ [y])))
theorem mt_append : MtM X "list.append" rAppend := by
  intro pins s σ H x vs v us Q I rx rv h
  obtain ⟨l, xs, y, rfl, rfl, hH, hz, q⟩ := h
  cases rx
  obtain ⟨u, rfl, ru⟩ := rv.one
  obtain ⟨z, its, n, r, hl, e⟩ := I.lstM hH
  refine call_meets F.slot_list_append ⟨_, e, rfl⟩ F.entry_list_append (F.args_list_append_2 _ _) (PySem.list_append l its.toArray n u (by rw [List.size_toArray]; omega)) ⟨e, ?_⟩
  refine ⟨.non, _, I.lset (its' := its ++ [u]) hH e (by simp) (r.append (.cons ru .nil)) ?_, rfl, q⟩
  rw [List.length_append, List.length_singleton]
  omega

def rPop : V → List V → Hp → VK → Prop := fun x vs H Q => ∃ l xs y, x = .ref l ∧ vs = [] ∧ H l = some (.lst xs) ∧ xs[xs.length - 1]? = some y ∧ Q y (upd H l (.lst xs.dropLast))
theorem mt_pop : MtM X "list.pop" rPop := by
  intro pins s σ H x vs v us Q I rx rv h
  obtain ⟨l, xs, y, rfl, rfl, hH, hy, q⟩ := h
  cases rx
  have hus := rv.zero
  subst hus
  obtain ⟨z, its, n, r, hl, e⟩ := I.lstM hH
  obtain ⟨u, hu, ru⟩ := r.get hy
  have hy' : its.toArray[its.toArray.size - 1]? = some u := by
    show its.toArray[its.length - 1]? = some u
    rw [← Array.getElem?_toList, ← hl]
    exact hu
  refine call_meets F.slot_list_pop ⟨_, e, rfl⟩ F.entry_list_pop (F.args_list_pop_1 _) (MeetsSeq.list_pop_last l its.toArray n u hy' (by rw [List.size_toArray]; omega)) ⟨e, ?_⟩
  refine ⟨y, _, I.lset (its' := its.dropLast) hH e ?_ r.dropLast ?_, ru, q⟩
  · show its.toArray.eraseIdxIfInBounds (its.toArray.size - 1) = its.dropLast.toArray
    rw [List.size_toArray, List.eraseIdxIfInBounds_toArray, erase_last]
  · rw [List.length_dropLast]
    omega

/-! ### list + list, list += list, list * int -/
def rCat : R2 := fun x y H Q => ∃ l b xs zs, x = .ref l ∧ y = .ref b ∧ H l = some (.lst xs) ∧ H b = some (.lst zs) ∧ xs.length + zs.length ≤ sizeLine ∧ ∀ p, H p = none → Q (.ref p) (upd H p (.lst (xs ++ zs)))
theorem op_cat : OpR X (binaryOp .Add) rCat := by
  intro pins s σ H x y v u Q I rx ry h
  obtain ⟨l, b, xs, zs, rfl, rfl, hH, hB, hz, q⟩ := h
  cases rx
  cases ry
  obtain ⟨z, its, n, r, hl, e⟩ := I.lstM hH
  obtain ⟨z2, its2, n2, r2, hl2, e2⟩ := I.lstM hB
  refine PySem.P.add_list e e2 ?_ (by rw [List.size_toArray, List.size_toArray]; omega)
  have ea : its.toArray ++ its2.toArray = (its ++ its2).toArray := by simp
  rw [ea]
  exact ⟨.ref _, _, I.lnew (t' := s.toks) (r.append r2) (by rw [List.length_append]; omega), rfl, q _ I.fresh⟩
end

/-! ### xs[a:b] = ys -/
section
variable {prog : Program} {w : World} {A : Around} {E : Value → Shared → Prop} {s : Shared}
end

section
variable {X : Cx}
end
end L2

namespace Att
open PySem PySem.W PySem.Calls PyProof.Rows

/-! ### rules over ANY heap (no ledger) from facts about the written part K: the library's own take a ledger (News) for what they write -/
section
variable {prog : Program} {w : World} {A : Around} {E : Value → Shared → Prop} {s : Shared} {K : Frag}

end
end Att

namespace L2
open PySem PySem.Spec PyProof.Rows

end L2

/- THE LAST THEOREM (shape; LID, My.* are yours):
   My.Adr: a structure of the addresses that your layer names (classes, functions); My.Txt K t: a structure (Prop) of the equations over K;
   My.txt_mk : {K} {implicit addresses ..} (e1 : nsIn K mainGlobals "law" = some (some (.ref f))) (e2 : K.lookup f = some ⟨oc, od, .func (fnOf "law" "law" params body scope dV kV doc pm an cdv ct), sl⟩) (e3 : codeIn K cdv "law" = true) .. : ∃ t, My.Txt K t

set_option maxRecDepth 100000 in
set_option maxHeartbeats 0 in
theorem PySem.Challenge.cw_LID_holds : PySem.Challenge.rw_LID.Holds := by
  w_on; o_law; k_head; (case hw => w_witness2)
  k_fill
  refine L2.walk_of (l := PySem.Challenge.rw_LID) (n := 63) (k := 40) (x := "script") (CX := fun w => ..) (sp := fun _ => My.sp_law) rfl (by decide) rfl ⟨rfl, by decide, by decide⟩ (fun w h Y => PySem.W.kIn_of Y) ?F ?S ?C
  case F =>
    intro w mg fa h KX G hmg
    have T : ∃ t, My.Txt (L2.KOf KX) t := by
      dsimp only [L2.KOf]                          -- K must stand as «<heap const> w.params» for k_is
      refine' My.txt_mk ?e1 ?e2 ?e3 ..
      (case e1 => PySem.W.k_is)                    -- in the order: a name -> its address -> its object -> its parts
      (case e2 => PySem.W.k_is)
      ..
    obtain ⟨t, T⟩ := T
    have e0 := hmg.symm.trans (PySem.W.mg_of KX G T.law)
    cases e0                                       -- fa is the law's own address
    exact ⟨_, fun s u => .of_eq rfl, fun base kb nb => My.law_fn T kb nb⟩     -- if «.of_eq rfl» comes too early: refine' ⟨_, ?b, fun base kb nb => My.law_fn T kb nb⟩; exact fun s u => .of_eq rfl
  case S => exact fun w H a ns hl hO hS => ..
  case C => exact ..
(the tactic k_is has no namespace: write k_is) -/

/-! SHORT WORDS over the layer: a def of the text, its body, what a loop and a test want. -/
namespace L2
open PySem PySem.Spec PyProof.Rows

/-! ### the text by places -/
/-- the j-th statement of a class's body -/
def inClass (s : Stmt) (j : Nat) : Stmt := match s with
  | .ClassDef _ _ _ body _ _ _ _ _ _ _ => body.getD j (.Pass ⟨0, 0, 0, 0⟩)
  | _ => .Pass ⟨0, 0, 0, 0⟩
def defArgs (s : Stmt) : Arguments := match s with
  | .FunctionDef _ a _ _ _ _ _ _ _ _ => a
  | _ => { posonlyargs := [], args := [], vararg := none, kwonlyargs := [], kw_defaults := [], kwarg := none, defaults := [] }
def defBody (s : Stmt) : List Stmt := match s with
  | .FunctionDef _ _ b _ _ _ _ _ _ _ => b
  | _ => []
def defScope (s : Stmt) : Scope := match s with
  | .FunctionDef _ _ _ _ _ _ sc _ _ _ => sc
  | _ => { kind := .function, names := [], isGenerator := false, isCoroutine := false }

/-! ### no exception leaves a def -/
abbrev CX0 : CXT := fun _ _ _ _ _ _ => False
abbrev E0 : XK := fun _ _ _ => False
theorem pass0 {X : Cx} : Passes CX0 X E0 := fun _ _ _ _ _ _ _ h => h.elim

/-! ### a def (or method) of the text as it stands behind the top -/
structure Fun (K : PySem.W.Frag) (x qual : Str) (st : Stmt) (f : Addr) (fd : FuncData) : Prop where
  ex : ∃ (oc : Value) (od : Option Addr) (kV doc pm : Value) (an : Option Addr) (cdv ct : Value) (osl : Array (Option Value)),
    fd = PySem.W.fnOf x qual (defArgs st) (defBody st) (defScope st) .none kV doc pm an cdv ct ∧ K.lookup f = some ⟨oc, od, .func fd, osl⟩ ∧ PySem.W.codeIn K cdv qual = true
  kp : PySem.W.keepIn K (.ref f) = true
section
variable {P : Program} {w : World} {K : PySem.W.Frag} {mg : Str → Option Value} {base : Heap}
/-- THE RULE for a def: its body as a term of rules, and the reading of that term -/
theorem Fun.ok {x qual : Str} {st : Stmt} {f : Addr} {fd : FuncData} {N ps : List Str} {k : Nat} {sp : Sp} (F : Fun K x qual st f fd) (S : FnScope N ps (defScope st)) (len : ∀ vs H Q E, sp vs H Q E → vs.length = ps.length)
    (hbody : ∀ (cdv : Value) (A : Around) (outer : List Env) (s : Shared) (H : Hp) (vs : List V) (Q : VK) (E : XK), Room k (A.deeper (envOfC qual (defScope st) s.heap.objs.size f cdv)) → sp vs H Q E →
      ∃ t, PSs (cxOf CX0 P w K mg base N qual (defScope st) f cdv A outer s H E).nox (defBody st) t ∧ t { nx := fun _ H' => Q .non H', rt := Q } (start N vs) H) : FnOk P w K mg base CX0 (k + 1) f fd ps sp := by
  obtain ⟨oc, od, kV, doc, pm, an, cdv, ct, osl, rfl, lk, hcd⟩ := F.ex
  refine fn_of lk hcd S len fun A outer s H vs Q E hr hsp => ?_
  obtain ⟨t, h, q⟩ := hbody cdv A outer s H vs Q E hr hsp
  exact ⟨t, h.nox, q⟩
/-- how its arguments bind (no defaults): h is «fun _ _ _ _ _ _ us hl => match us, hl with | [_, _], _ => rfl», one _ a parameter -/
theorem Fun.binds {x qual : Str} {st : Stmt} {f : Addr} {fd : FuncData} {ps : List Str} (F : Fun K x qual st f fd)
    (h : ∀ (kV doc pm : Value) (an : Option Addr) (cdv ct : Value) (us : List Value), us.length = ps.length → bindArgs (PySem.W.fnOf x qual (defArgs st) (defBody st) (defScope st) .none kV doc pm an cdv ct) ⟨us, []⟩ = pure (ps.zip us)) : Binds K fd ps [] := by
  obtain ⟨oc, od, kV, doc, pm, an, cdv, ct, osl, rfl, lk, hcd⟩ := F.ex
  exact .all (h kV doc pm an cdv ct)
theorem fun_mk {x qual : Str} {st : Stmt} {f : Addr} {oc : Value} {od an : Option Addr} {osl : Array (Option Value)} {kV doc pm cdv ct : Value} (l : K.lookup f = some ⟨oc, od, .func (PySem.W.fnOf x qual (defArgs st) (defBody st) (defScope st) .none kV doc pm an cdv ct), osl⟩)
    (c : PySem.W.codeIn K cdv qual = true) (k : PySem.W.keepIn K (.ref f) = true) : Fun K x qual st f (PySem.W.fnOf x qual (defArgs st) (defBody st) (defScope st) .none kV doc pm an cdv ct) := ⟨⟨oc, od, kV, doc, pm, an, cdv, ct, osl, rfl, l, c⟩, k⟩
end
/-! ### expressions in short: the name that stands in the i-th slot -/
section
variable {X : Cx}
theorem pv (i : Nat) {x : Str} {pos : Pos} (hN : X.N[i]? = some x := by rfl) (hv : Vis X.env.scope x := by first | exact Or.inl rfl | exact Or.inr (Or.inl rfl) | exact Or.inr (Or.inr rfl)) (hd : (x == ("__debug__" : Str)) = false := by decide)
    (hcd : (x == ("__classdict__" : Str)) = false := by decide) : PE X (.Name x pos) (tVar i) := pe_var hN hv hd hcd
end

/-! ### tests -/
theorem iteF {A B : Prop} (h : B) : if false = true then A else B := by
  rw [if_neg Bool.false_ne_true]
  exact h
theorem iteT {A B : Prop} (h : A) : if true = true then A else B := by
  rw [if_pos rfl]
  exact h
theorem ite2 {c A B : Prop} [Decidable c] (h1 : c → A) (h2 : ¬ c → B) : if c then A else B := by
  by_cases h : c
  · rw [if_pos h]
    exact h1 h
  · rw [if_neg h]
    exact h2 h
/-! ### heaps -/
/-- all that was tracked is as it was -/
def Same (H H' : Hp) : Prop := ∀ b o, H b = some o → H' b = some o
theorem Same.trans {H H1 H2 : Hp} (a : Same H H1) (b : Same H1 H2) : Same H H2 := fun c o h => b c o (a c o h)
theorem Same.free {H H' : Hp} (e : Same H H') {l : Addr} (h : H' l = Option.none) : H l = Option.none := by
  cases q : H l with
  | none => rfl
  | some o =>
    rw [e l o q] at h
    cases h
theorem Same.seq {K : PySem.W.Frag} {H H' : Hp} {a : Addr} {xs : List V} (e : Same H H') (h : SqL K H a xs) : SqL K H' a xs := by
  rcases h with (h | ⟨o, h⟩) | h
  · exact .inl (.inl (e _ _ h))
  · exact .inl (.inr ⟨o, e _ _ h⟩)
  · exact .inr h

/-! ### lists -/
theorem at_of {xs : List V} {z : Int} {j : Nat} {v : V} (e : z = (j : Int)) (h : xs[j]? = some v) : atI xs z = some v := by
  rw [e]
  exact atI_nat h
/-- a new instance and its __init__ leave all that was tracked as it was -/
theorem Same.made {H H1 : Hp} {x dx C : Addr} (nx : H x = Option.none) (nd : H dx = Option.none) (k : ∀ b o, (upd (upd H dx (.own x)) x (.ins C dx [])) b = some o → b ≠ x → H1 b = some o) : Same H H1 := fun b o e =>
  k b o (by rw [upd_ne (ne_of_none e nx), upd_ne (ne_of_none e nd)]; exact e) (ne_of_none e nx)
end L2

set_option maxHeartbeats 2000000
namespace L2
open PySem PySem.Spec PyProof.Rows
open PySem.W (WData Codec OpenSpec Well WellAll ReadsW ReadsAllW)
/-! ### an answer as data -/
mutual
/-- x stands for the datum d, lists and tuples all the way -/
inductive Dw (K : PySem.W.Frag) (H : Hp) : V → WData → Prop
  | non : Dw K H .non .none
  | bl (b : Bool) : Dw K H (.bl b) (.bool b)
  | int (i : Int) : Dw K H (.int i) (.int i)
  | str (x : Str) : Dw K H (.str x) (.str x)
  | byt (b : Array UInt8) : Dw K H (.byt b) (.bytes b.toList)
  | lst {a : Addr} {xs : List V} {ds : List WData} : SqL K H a xs → DwAll K H xs ds → Dw K H (.ref a) (.list ds)
  | tup {a : Addr} {xs : List V} {ds : List WData} : SqT K H a xs → DwAll K H xs ds → Dw K H (.ref a) (.tuple ds)
inductive DwAll (K : PySem.W.Frag) (H : Hp) : List V → List WData → Prop
  | nil : DwAll K H [] []
  | cons {v : V} {vs : List V} {d : WData} {ds : List WData} : Dw K H v d → DwAll K H vs ds → DwAll K H (v :: vs) (d :: ds)
end
theorem dw_ints {K : PySem.W.Frag} {H : Hp} : ∀ ns : List Int, DwAll K H (ns.map V.int) (ns.map WData.int)
  | [] => .nil
  | n :: r => .cons (.int n) (dw_ints r)
theorem ints_dw {K : PySem.W.Frag} {H : Hp} : ∀ (ns : List Int) (xs : List V), DwAll K H xs (ns.map WData.int) → xs = ns.map V.int
  | [], xs, h => by
    cases h
    rfl
  | n :: r, xs, h => by
    cases h with
    | cons h1 h2 =>
      cases h1
      rw [ints_dw r _ h2] <;> rfl
section
variable {P : Program} {w : World} {K : PySem.W.Frag} {H : Hp} {h : Heap} {R : PySem.W.WRecords} {cl : Str → Option Addr}
theorem sqL_at {a : Addr} {xs : List V} (hok : HOk P w H h) (KX : K.In h) (q : SqL K H a xs) : ∃ (its : List Value) (o : Obj) (n : Nat), Vals xs its ∧ h.get? a = some o ∧ o.cls = .type "list" ∧ o.data = .seq its.toArray n := by
  rcases q with q | ⟨o, its, n, e, hc, _, hd, _, hv⟩
  · obtain ⟨_, its, n, hv, e⟩ := (show ObjOk P w H h a (.lst xs) from q.ok hok)
    exact ⟨its, _, n, hv, e, rfl, rfl⟩
  · exact ⟨its.toList, o, n, hv, KX _ _ e, hc, by simp [hd]⟩
theorem sqT_at {a : Addr} {xs : List V} (hok : HOk P w H h) (KX : K.In h) (q : SqT K H a xs) : ∃ (its : List Value) (o : Obj) (n : Nat), Vals xs its ∧ h.get? a = some o ∧ o.cls = .type "tuple" ∧ o.data = .seq its.toArray n := by
  rcases q with q | ⟨o, its, n, e, hc, hd, _, hv⟩
  · obtain ⟨_, its, hv, o, e, hc, n, hd⟩ := (show ObjOk P w H h a (.tup xs) from q.ok hok)
    exact ⟨its, o, n, hv, e, hc, hd⟩
  · exact ⟨its.toList, o, n, hv, KX _ _ e, hc, by simp [hd]⟩
mutual
theorem Dw.reads (hok : HOk P w H h) (KX : K.In h) : ∀ (d : WData) (v : V) (u : Value), Dw K H v d → RelV v u → ∃ as, ReadsW R cl h u d as
  | .none, _, _, x, r => by
    cases x
    cases r
    exact ⟨_, ReadsW.none⟩
  | .bool b, _, _, x, r => by
    cases x
    cases r
    exact ⟨_, ReadsW.bool b⟩
  | .int i, _, _, x, r => by
    cases x
    obtain ⟨t, rfl⟩ := r
    exact ⟨_, ReadsW.int i t⟩
  | .str s, _, _, x, r => by
    cases x
    obtain ⟨t, rfl⟩ := r
    exact ⟨_, ReadsW.str s t⟩
  | .bytes b, _, _, x, r => by
    cases x
    obtain ⟨t, rfl⟩ := r
    exact ⟨_, ReadsW.bytes _ t⟩
  | .list ds, _, _, x, r => by
    cases x with
    | lst hs ha =>
      cases r
      obtain ⟨its, o, n, rv, ho, hc, hd⟩ := sqL_at hok KX hs
      obtain ⟨as, hr⟩ := Dw.readsAll hok KX ds _ its ha rv
      exact ⟨_, ReadsW.list ho hc hd hr⟩
  | .tuple ds, _, _, x, r => by
    cases x with
    | tup hs ha =>
      cases r
      obtain ⟨its, o, n, rv, ho, hc, hd⟩ := sqT_at hok KX hs
      obtain ⟨as, hr⟩ := Dw.readsAll hok KX ds _ its ha rv
      exact ⟨_, ReadsW.tuple ho hc hd hr⟩
  | .float _, _, _, x, _ => by cases x
  | .dict _, _, _, x, _ => by cases x
  | .bytearray _, _, _, x, _ => by cases x
  | .set _, _, _, x, _ => by cases x
  | .frozenset _, _, _, x, _ => by cases x
  | .obj _ _, _, _, x, _ => by cases x
theorem Dw.readsAll (hok : HOk P w H h) (KX : K.In h) : ∀ (ds : List WData) (vs : List V) (us : List Value), DwAll K H vs ds → Vals vs us → ∃ as, ReadsAllW R cl h us ds as
  | [], _, _, x, r => by
    cases x
    cases r
    exact ⟨_, ReadsAllW.nil⟩
  | d :: ds, _, _, x, r => by
    cases x with
    | cons h1 h2 =>
      cases r with
      | cons r1 r2 =>
        obtain ⟨as, q1⟩ := Dw.reads hok KX d _ _ h1 r1
        obtain ⟨bs, q2⟩ := Dw.readsAll hok KX ds _ _ h2 r2
        exact ⟨_, ReadsAllW.cons q1 q2⟩
end
end
/-! ### the arguments -/
mutual
/-- data that a codec tells -/
def plW : WData → Bool
  | .none => true
  | .bool _ => true
  | .int _ => true
  | .str _ => true
  | .bytes _ => true
  | .list xs => plWs xs
  | .tuple xs => plWs xs
  | _ => false
def plWs : List WData → Bool
  | [] => true
  | x :: r => plW x && plWs r
end
theorem plWs_map {α : Type} {f : α → WData} (h : ∀ a, plW (f a) = true) : ∀ l : List α, plWs (l.map f) = true
  | [] => rfl
  | x :: r => by
    show (plW (f x) && plWs (r.map f)) = true
    rw [h x, plWs_map h r] <;> rfl
theorem pl_enc : ∀ (c : Codec) (a : c.denote), plW (c.enc a) = true
  | .unit, _ => rfl
  | .bool, _ => rfl
  | .int _ _, _ => rfl
  | .nat _ _, _ => rfl
  | .u8, _ => rfl
  | .bytes _ _, _ => rfl
  | .text _ _ _ _, _ => rfl
  | .list _ _ c, a => plWs_map (fun x => pl_enc c x) a
  | .pair c d, a => by
    show (plW (c.enc a.1) && (plW (d.enc a.2) && true)) = true
    rw [pl_enc c a.1, pl_enc d a.2] <;> rfl
  | .triple c d e, a => by
    show (plW (c.enc a.1) && (plW (d.enc a.2.1) && (plW (e.enc a.2.2) && true))) = true
    rw [pl_enc c a.1, pl_enc d a.2.1, pl_enc e a.2.2] <;> rfl
  | .option c, none => rfl
  | .option c, some x => pl_enc c x
theorem pl_encAll : ∀ (cs : List Codec) (a : Codec.denoteAll cs), plWs (Codec.encAll cs a) = true
  | [], _ => rfl
  | c :: cs, a => by
    show (plW (c.enc a.1) && plWs (Codec.encAll cs a.2)) = true
    rw [pl_enc c a.1, pl_encAll cs a.2] <;> rfl
theorem weight_mem : ∀ {xs : List WData} {d : WData}, d ∈ xs → d.weight ≤ WData.weightAll xs
  | [], d, h => absurd h (by simp)
  | x :: r, d, h => by
    show d.weight ≤ x.weight + 1 + WData.weightAll r
    rcases List.mem_cons.mp h with e | m
    · rw [e]
      omega
    · have z := weight_mem m
      omega
def toV : Value → V
  | .none => .non
  | .bool b => .bl b
  | .int i _ => .int i
  | .str x _ => .str x
  | .bytes b _ => .byt b
  | .ref a => .ref a
  | _ => .non
/-- a value of the arguments, its objects among A -/
def OkU (A : List Addr) : Value → Prop
  | .none => True
  | .bool _ => True
  | .int _ _ => True
  | .str _ _ => True
  | .bytes _ _ => True
  | .ref a => a ∈ A
  | _ => False
theorem OkU.mono {A B : List Addr} (h : ∀ a ∈ A, a ∈ B) : ∀ {u : Value}, OkU A u → OkU B u := fun {u} x => by
  cases u with
  | ref a => exact h a x
  | none => trivial
  | bool b => trivial
  | int i t => trivial
  | str s t => trivial
  | bytes b t => trivial
  | _ => exact False.elim x
theorem relV_toV {A : List Addr} {u : Value} (x : OkU A u) : RelV (toV u) u := by
  cases u with
  | ref a => rfl
  | none => rfl
  | bool b => rfl
  | int i t => exact ⟨t, rfl⟩
  | str s t => exact ⟨t, rfl⟩
  | bytes b t => exact ⟨t, rfl⟩
  | _ => exact False.elim x
theorem vals_toV {A : List Addr} : ∀ {vs : List Value}, (∀ u ∈ vs, OkU A u) → Vals (vs.map toV) vs
  | [], _ => .nil
  | u :: r, h => .cons (relV_toV (h u (List.mem_cons_self ..))) (vals_toV fun x hx => h x (List.mem_cons_of_mem _ hx))
/-- an object of the arguments -/
def ArgOb (h : Heap) (A : List Addr) (a : Addr) : Prop := ∃ vs : List Value, vs.length ≤ sizeLine ∧ (∀ u ∈ vs, OkU A u) ∧
  (h.get? a = some { cls := .type "list", data := .seq vs.toArray } ∨ h.get? a = some { cls := .type "tuple", data := .seq vs.toArray })
theorem ArgOb.mono {h : Heap} {A B : List Addr} {a : Addr} (k : ∀ a ∈ A, a ∈ B) (x : ArgOb h A a) : ArgOb h B a := by
  obtain ⟨vs, h1, h2, h3⟩ := x
  exact ⟨vs, h1, fun u hu => (h2 u hu).mono k, h3⟩
theorem wellAll_len {P : Params} {h : Heap} : ∀ {vs : List Value} {ds : List WData}, WellAll P h vs ds → vs.length = ds.length
  | _, _, .nil => rfl
  | _, _, .cons _ b => by
    show _ + 1 = _ + 1
    rw [wellAll_len b]
theorem well_list {P : Params} {h : Heap} {v : Value} {ds : List WData} (x : Well P h v (.list ds)) : ∃ (a : Addr) (vs : List Value), v = .ref a ∧ h.get? a = some { cls := .type "list", data := .seq vs.toArray } ∧ WellAll P h vs ds := by
  cases x with
  | list ho hall => exact ⟨_, _, rfl, ho, hall⟩
theorem well_tuple {P : Params} {h : Heap} {v : Value} {ds : List WData} (x : Well P h v (.tuple ds)) : ∃ (a : Addr) (vs : List Value), v = .ref a ∧ h.get? a = some { cls := .type "tuple", data := .seq vs.toArray } ∧ WellAll P h vs ds := by
  cases x with
  | tuple ho hall => exact ⟨_, _, rfl, ho, hall⟩
theorem well_cons {P : Params} {h : Heap} {us : List Value} {d : WData} {ds : List WData} (x : WellAll P h us (d :: ds)) : ∃ (v : Value) (vs : List Value), us = v :: vs ∧ Well P h v d ∧ WellAll P h vs ds := by
  cases x with
  | cons a b => exact ⟨_, _, rfl, a, b⟩
theorem line_of {n : Nat} (h : n ≤ 1048576) : n ≤ sizeLine := Nat.le_trans h (by decide)
section
variable {P : Params} {h : Heap}
mutual
theorem area_one : ∀ (d : WData) (v : Value), Well P h v d → plW d = true → d.weight ≤ 1048576 → ∃ A : List Addr, OkU A v ∧ ∀ a ∈ A, ArgOb h A a
  | .none, _, x, _, _ => by
    cases x
    exact ⟨[], trivial, fun a m => absurd m (by simp)⟩
  | .bool b, _, x, _, _ => by
    cases x
    exact ⟨[], trivial, fun a m => absurd m (by simp)⟩
  | .int i, _, x, _, _ => by
    cases x
    exact ⟨[], trivial, fun a m => absurd m (by simp)⟩
  | .str s, _, x, _, _ => by
    cases x
    exact ⟨[], trivial, fun a m => absurd m (by simp)⟩
  | .bytes b, _, x, _, _ => by
    cases x
    exact ⟨[], trivial, fun a m => absurd m (by simp)⟩
  | .list ds, _, x, p, z => by
    obtain ⟨a, vs, rfl, ho, hall⟩ := well_list x
    have z2 : WData.weightAll ds ≤ 1048576 := z
    obtain ⟨A, h1, h2⟩ := area_all ds _ hall p fun d hd => Nat.le_trans (weight_mem hd) z2
    have k : ∀ b ∈ A, b ∈ a :: A := fun b hb => List.mem_cons_of_mem _ hb
    refine ⟨a :: A, List.mem_cons_self .., fun b hb => ?_⟩
    rcases List.mem_cons.mp hb with e | m
    · rw [e]
      exact ⟨vs, line_of (by rw [wellAll_len hall]; exact Nat.le_trans (PySem.W.length_le_weightAllW ds) z2), fun u hu => (h1 u hu).mono k, .inl ho⟩
    · exact (h2 b m).mono k
  | .tuple ds, _, x, p, z => by
    obtain ⟨a, vs, rfl, ho, hall⟩ := well_tuple x
    have z2 : WData.weightAll ds ≤ 1048576 := z
    obtain ⟨A, h1, h2⟩ := area_all ds _ hall p fun d hd => Nat.le_trans (weight_mem hd) z2
    have k : ∀ b ∈ A, b ∈ a :: A := fun b hb => List.mem_cons_of_mem _ hb
    refine ⟨a :: A, List.mem_cons_self .., fun b hb => ?_⟩
    rcases List.mem_cons.mp hb with e | m
    · rw [e]
      exact ⟨vs, line_of (by rw [wellAll_len hall]; exact Nat.le_trans (PySem.W.length_le_weightAllW ds) z2), fun u hu => (h1 u hu).mono k, .inr ho⟩
    · exact (h2 b m).mono k
  | .float _, _, _, p, _ => Bool.noConfusion (show false = true from p)
  | .dict _, _, _, p, _ => Bool.noConfusion (show false = true from p)
  | .bytearray _, _, _, p, _ => Bool.noConfusion (show false = true from p)
  | .set _, _, _, p, _ => Bool.noConfusion (show false = true from p)
  | .frozenset _, _, _, p, _ => Bool.noConfusion (show false = true from p)
  | .obj _ _, _, _, p, _ => Bool.noConfusion (show false = true from p)
theorem area_all : ∀ (ds : List WData) (vs : List Value), WellAll P h vs ds → plWs ds = true → (∀ d ∈ ds, d.weight ≤ 1048576) → ∃ A : List Addr, (∀ u ∈ vs, OkU A u) ∧ ∀ a ∈ A, ArgOb h A a
  | [], _, x, _, _ => by
    cases x
    exact ⟨[], fun u m => absurd m (by simp), fun a m => absurd m (by simp)⟩
  | d :: ds, _, x, p, z => by
    obtain ⟨v, vs, rfl, x1, x2⟩ := well_cons x
    have q : plW d = true ∧ plWs ds = true := Bool.and_eq_true_iff.mp p
    obtain ⟨A, a1, a2⟩ := area_one d v x1 q.1 (z d (List.mem_cons_self ..))
    obtain ⟨B, b1, b2⟩ := area_all ds vs x2 q.2 fun e he => z e (List.mem_cons_of_mem _ he)
    have kA : ∀ b ∈ A, b ∈ A ++ B := fun b hb => List.mem_append.mpr (.inl hb)
    have kB : ∀ b ∈ B, b ∈ A ++ B := fun b hb => List.mem_append.mpr (.inr hb)
    refine ⟨A ++ B, fun u hu => ?_, fun b hb => ?_⟩
    · rcases List.mem_cons.mp hu with e | m
      · rw [e]
        exact a1.mono kA
      · exact (b1 u m).mono kB
    · rcases List.mem_append.mp hb with m | m
      · exact (a2 b m).mono kA
      · exact (b2 b m).mono kB
end
end
/-- what is tracked of an argument's object -/
def hoOf (o : Obj) : Option HO := match o.data with
  | .seq vs _ => if (o.cls == Value.type "list") = true then some (.frz o (.lst (vs.toList.map toV))) else some (.frz o (.tup (vs.toList.map toV)))
  | _ => none
def argH (K : PySem.W.Frag) (h : Heap) (A : List Addr) : Hp := fun b => if b ∈ A then (if (K.lookup b).isNone = true then (h.get? b).bind hoOf else none) else none
/-- nothing is tracked but what is known to the object -/
def OnlyF (H : Hp) : Prop := ∀ b, H b = none ∨ ∃ o u, H b = some (.frz o u)
theorem hoOf_lst (vs : List Value) : hoOf { cls := .type "list", data := .seq vs.toArray } = some (.frz { cls := .type "list", data := .seq vs.toArray } (.lst (vs.map toV))) := by
  show (if (Value.type "list" == Value.type "list") = true then some (HO.frz { cls := .type "list", data := .seq vs.toArray } (.lst (vs.toArray.toList.map toV))) else some (HO.frz { cls := .type "list", data := .seq vs.toArray } (.tup (vs.toArray.toList.map toV)))) = _
  rw [if_pos (beq_self_eq_true _)]
theorem hoOf_tup (vs : List Value) : hoOf { cls := .type "tuple", data := .seq vs.toArray } = some (.frz { cls := .type "tuple", data := .seq vs.toArray } (.tup (vs.map toV))) := by
  show (if (Value.type "tuple" == Value.type "list") = true then some (HO.frz { cls := .type "tuple", data := .seq vs.toArray } (.lst (vs.toArray.toList.map toV))) else some (HO.frz { cls := .type "tuple", data := .seq vs.toArray } (.tup (vs.toArray.toList.map toV)))) = _
  rw [if_neg (by decide)]
section
variable {P : Program} {w : World} {K : PySem.W.Frag} {h : Heap} {A : List Addr}
theorem argH_at {b : Addr} {o : Obj} (hb : b ∈ A) (hk : K.lookup b = none) (e : h.get? b = some o) : argH K h A b = hoOf o := by
  unfold argH
  rw [if_pos hb, hk, if_pos (show (none : Option Obj).isNone = true from rfl), e] <;> rfl
theorem of_argH {b : Addr} {u : HO} (q : argH K h A b = some u) : b ∈ A ∧ K.lookup b = none := by
  unfold argH at q
  by_cases hb : b ∈ A
  · rw [if_pos hb] at q
    cases hk : K.lookup b with
    | none => exact ⟨hb, rfl⟩
    | some o =>
      rw [hk, if_neg (by simp)] at q
      cases q
  · rw [if_neg hb] at q
    cases q
/-- what stands tracked -/
theorem argH_is (ar : ∀ a ∈ A, ArgOb h A a) {b : Addr} {u : HO} (q : argH K h A b = some u) : K.lookup b = none ∧ ∃ vs : List Value, vs.length ≤ sizeLine ∧ (∀ u ∈ vs, OkU A u) ∧
    ((h.get? b = some { cls := .type "list", data := .seq vs.toArray } ∧ u = .frz { cls := .type "list", data := .seq vs.toArray } (.lst (vs.map toV))) ∨
     (h.get? b = some { cls := .type "tuple", data := .seq vs.toArray } ∧ u = .frz { cls := .type "tuple", data := .seq vs.toArray } (.tup (vs.map toV)))) := by
  obtain ⟨hb, hk⟩ := of_argH q
  obtain ⟨vs, h1, h2, h3⟩ := ar b hb
  refine ⟨hk, vs, h1, h2, ?_⟩
  rcases h3 with e | e
  · rw [argH_at hb hk e, hoOf_lst] at q
    exact .inl ⟨e, (Option.some.inj q).symm⟩
  · rw [argH_at hb hk e, hoOf_tup] at q
    exact .inr ⟨e, (Option.some.inj q).symm⟩
theorem argH_only (ar : ∀ a ∈ A, ArgOb h A a) : OnlyF (argH K h A) := fun b => by
  cases q : argH K h A b with
  | none => exact .inl rfl
  | some u =>
    obtain ⟨_, vs, _, _, ⟨_, e⟩ | ⟨_, e⟩⟩ := argH_is ar q
    · exact .inr ⟨_, _, by rw [e]⟩
    · exact .inr ⟨_, _, by rw [e]⟩
theorem argH_ok (ar : ∀ a ∈ A, ArgOb h A a) : HOk P w (argH K h A) h := fun b u q => by
  obtain ⟨_, vs, h1, h2, ⟨e, rfl⟩ | ⟨e, rfl⟩⟩ := argH_is ar q
  · exact ⟨e, by rw [List.length_map]; exact h1, vs, _, vals_toV h2, e⟩
  · exact ⟨e, by rw [List.length_map]; exact h1, vs, vals_toV h2, _, e, rfl, _, rfl⟩
theorem seq_inj {c c' : Value} {vs us : List Value} (e : (some { cls := c, data := .seq vs.toArray } : Option Obj) = some { cls := c', data := .seq us.toArray }) : c = c' ∧ vs = us := by
  have e1 := Option.some.inj e
  have e2 : c = c' := congrArg Obj.cls e1
  have e3 : Data.seq vs.toArray = Data.seq us.toArray := congrArg Obj.data e1
  injection e3 with e4
  refine ⟨e2, ?_⟩
  have e5 := congrArg Array.toList e4
  simpa using e5
/-- a list argument -/
theorem argL (KX : K.In h) (ar : ∀ a ∈ A, ArgOb h A a) {a : Addr} {vs : List Value} (ha : a ∈ A) (e : h.get? a = some { cls := .type "list", data := .seq vs.toArray }) : (∀ u ∈ vs, OkU A u) ∧ SqL K (argH K h A) a (vs.map toV) := by
  obtain ⟨us, h1, h2, h3⟩ := ar a ha
  have hu : us = vs := by
    rcases h3 with q | q
    · rw [e] at q
      exact (seq_inj q).2.symm
    · rw [e] at q
      exact absurd (Value.type.inj (seq_inj q).1) (by decide)
  subst hu
  refine ⟨h2, ?_⟩
  cases hk : K.lookup a with
  | none => exact .inl (.inr ⟨_, by rw [argH_at ha hk e, hoOf_lst]⟩)
  | some o =>
    have e2 := KX a o hk
    rw [e] at e2
    obtain rfl := Option.some.inj e2
    exact .inr ⟨_, us.toArray, _, hk, rfl, rfl, rfl, by rw [List.size_toArray]; exact h1, by simpa using vals_toV h2⟩
theorem argT (KX : K.In h) (ar : ∀ a ∈ A, ArgOb h A a) {a : Addr} {vs : List Value} (ha : a ∈ A) (e : h.get? a = some { cls := .type "tuple", data := .seq vs.toArray }) : (∀ u ∈ vs, OkU A u) ∧ SqT K (argH K h A) a (vs.map toV) := by
  obtain ⟨us, h1, h2, h3⟩ := ar a ha
  have hu : us = vs := by
    rcases h3 with q | q
    · rw [e] at q
      exact absurd (Value.type.inj (seq_inj q).1) (by decide)
    · rw [e] at q
      exact (seq_inj q).2.symm
  subst hu
  refine ⟨h2, ?_⟩
  cases hk : K.lookup a with
  | none => exact .inl (.inr ⟨_, by rw [argH_at ha hk e, hoOf_tup]⟩)
  | some o =>
    have e2 := KX a o hk
    rw [e] at e2
    obtain rfl := Option.some.inj e2
    exact .inr ⟨_, us.toArray, _, hk, rfl, rfl, by rw [List.size_toArray]; exact h1, by simpa using vals_toV h2⟩
mutual
theorem dw_one {Pm : Params} (KX : K.In h) (ar : ∀ a ∈ A, ArgOb h A a) : ∀ (d : WData) (v : Value), Well Pm h v d → plW d = true → OkU A v → Dw K (argH K h A) (toV v) d
  | .none, _, x, _, _ => by
    cases x
    exact .non
  | .bool b, _, x, _, _ => by
    cases x
    exact .bl b
  | .int i, _, x, _, _ => by
    cases x
    exact .int i
  | .str s, _, x, _, _ => by
    cases x
    exact .str s
  | .bytes b, _, x, _, _ => by
    cases x
    have z := Dw.byt (K := K) (H := argH K h A) b.toArray
    exact z
  | .list ds, _, x, p, hu => by
    obtain ⟨a, vs, rfl, ho, hall⟩ := well_list x
    obtain ⟨h2, hs⟩ := argL KX ar hu ho
    exact .lst hs (dw_all KX ar ds _ hall p h2)
  | .tuple ds, _, x, p, hu => by
    obtain ⟨a, vs, rfl, ho, hall⟩ := well_tuple x
    obtain ⟨h2, hs⟩ := argT KX ar hu ho
    exact .tup hs (dw_all KX ar ds _ hall p h2)
  | .float _, _, _, p, _ => Bool.noConfusion (show false = true from p)
  | .dict _, _, _, p, _ => Bool.noConfusion (show false = true from p)
  | .bytearray _, _, _, p, _ => Bool.noConfusion (show false = true from p)
  | .set _, _, _, p, _ => Bool.noConfusion (show false = true from p)
  | .frozenset _, _, _, p, _ => Bool.noConfusion (show false = true from p)
  | .obj _ _, _, _, p, _ => Bool.noConfusion (show false = true from p)
theorem dw_all {Pm : Params} (KX : K.In h) (ar : ∀ a ∈ A, ArgOb h A a) : ∀ (ds : List WData) (vs : List Value), WellAll Pm h vs ds → plWs ds = true → (∀ u ∈ vs, OkU A u) → DwAll K (argH K h A) (vs.map toV) ds
  | [], _, x, _, _ => by
    cases x
    exact .nil
  | d :: ds, _, x, p, hu => by
    obtain ⟨v, vs, rfl, x1, x2⟩ := well_cons x
    have q : plW d = true ∧ plWs ds = true := Bool.and_eq_true_iff.mp p
    exact .cons (dw_one KX ar d v x1 q.1 (hu _ (List.mem_cons_self ..))) (dw_all KX ar ds vs x2 q.2 fun u m => hu u (List.mem_cons_of_mem _ m))
end
end
/-! ### the call -/
theorem spec_call {P : Program} {w : World} {K : PySem.W.Frag} {mg mb : Str → Option Value} {CX : CXT} {k : Nat} {fa : Addr} {fd : FuncData} {ps : List Str} {sp : Sp} {s₁ : Shared} {vals : List Value} {ds : List WData} {R : PySem.W.WRecords} {cl : Str → Option Addr} {d0 : WData}
    (KX : K.In s₁.heap) (hns : s₁.heap.Ns mainGlobals mg) (hb : s₁.heap.Ns builtinsNs mb) (hbb : ∀ x : Str, x ≠ "__name__" → mb x = bootBuiltins x) (hlim : s₁.heap.NoLimit) (hsr : s₁.heap.NoSeer) (hg : s₁.gens = #[])
    (hwl : WellAll w.params s₁.heap vals ds) (hpl : plWs ds = true) (hwt : ∀ d ∈ ds, d.weight ≤ 1048576) (hr : Room k callerA)
    (F : ∀ base : Heap, K.In base → base.Ns mainGlobals mg → FnOk P w K mg base CX k fa fd ps sp) (hbind : ∀ (s : Shared) (us : List Value), us.length = ps.length → BindsTo s fd ⟨us, []⟩ (ps.zip us)) (hlen : ds.length = ps.length)
    (hsp : ∀ (H : Hp) (xs : List V), OnlyF H → DwAll K H xs ds → sp xs H (fun v H' => Dw K H' v d0) fun _ _ _ => False)
    (hCX : ∀ H e s', CX [] H s₁ (fun _ _ _ => False) e s' → False) :
    codeAny (model P w) callerA (.call (.ref fa) ⟨vals, []⟩) (fun r s' => ∃ u as, r = .ok (.ret u) ∧ ReadsW R cl s'.heap u d0 as ∧ OldK s₁.heap s'.heap ∧ s'.os = s₁.os ∧ AllBare s'.gens) s₁ := by
  obtain ⟨A, ho, ar⟩ := area_all ds vals hwl hpl hwt
  have hO : OnlyF (argH K s₁.heap A) := argH_only ar
  have hok : HOk P w (argH K s₁.heap A) s₁.heap := argH_ok ar
  have hS := dw_all KX ar ds vals hwl hpl ho
  have hV := vals_toV ho
  have hK : ∀ b u, argH K s₁.heap A b = some u → K.lookup b = none := fun b u q => (argH_is ar q).1
  have noA : ∀ {b : Addr} {o : Obj} {es : Array DictEntry} {ep : Nat}, s₁.heap.get? b = some o → o.data = .dict es ep → argH K s₁.heap A b = none := fun {b o es ep} e d => by
    cases q : argH K s₁.heap A b with
    | none => rfl
    | some u =>
      obtain ⟨_, vs, _, _, ⟨e2, _⟩ | ⟨e2, _⟩⟩ := argH_is ar q
      · rw [e2] at e
        cases e
        have d' : Data.seq vs.toArray _ = Data.dict es ep := d
        cases d'
      · rw [e2] at e
        cases e
        have d' : Data.seq vs.toArray _ = Data.dict es ep := d
        cases d'
  have noM : ∀ {b : Addr} {o : Obj}, s₁.heap.get? b = some o → o.cls = .type "module" → argH K s₁.heap A b = none := fun {b o} e d => by
    cases q : argH K s₁.heap A b with
    | none => rfl
    | some u =>
      obtain ⟨_, vs, _, _, ⟨e2, _⟩ | ⟨e2, _⟩⟩ := argH_is ar q
      · rw [e2] at e
        cases e
        injection d with d
        exact absurd d (by decide)
      · rw [e2] at e
        cases e
        injection d with d
        exact absurd d (by decide)
  generalize argH K s₁.heap A = H at hO hok hS hK noA noM
  have base_of : ∀ {b : Addr} {o : Obj}, s₁.heap.get? b = some o → H b = none → (hidT s₁.heap H).get? b = some o := fun e n => hidT_get e n
  have nsK : ∀ {b : Addr} {m : Str → Option Value}, s₁.heap.Ns b m → (hidT s₁.heap H).Ns b m := fun {b m} ⟨o, es, ep, e, d, r⟩ => ⟨o, es, ep, base_of e (noA e d), d, r⟩
  have nK : ∀ b o, K.lookup b = some o → H b = none := fun b o e => by
    cases q : H b with
    | none => rfl
    | some u =>
      rw [hK b u q] at e
      cases e
  have hKb : K.In (hidT s₁.heap H) := fun b o e => base_of (KX b o e) (nK b o e)
  have hM : Mod K mg (hidT s₁.heap H) := ⟨hKb, nsK hns, ⟨mb, nsK hb, hbb⟩, (let ⟨mc, h1, h2⟩ := hlim; ⟨mc, nsK h1, h2⟩), { statics := (let ⟨mc, a, b⟩ := hsr.statics; ⟨mc, nsK a, b⟩), mods := (let ⟨mc, a, b⟩ := hsr.mods; ⟨mc, nsK a, b⟩), imp := (let ⟨mc, a, b⟩ := hsr.imp; ⟨mc, nsK a, b⟩), main := (let ⟨mg, bm, ob, a, b, c, d, e⟩ := hsr.main; ⟨mg, bm, ob, nsK a, b, base_of c (noM c d), d, e⟩) }⟩
  have e0 : Env0 P w K mg (hidT s₁.heap H) callerA [] s₁ H := ⟨rfl, hM, fun b o e => of_hidT e, Nat.le_of_eq (hidT_size _ _), trivial, fun b hb => absurd (show b ∈ ([] : List Addr) from hb) (by simp), hok, .of_eq hg⟩
  have hl : vals.length = ps.length := by rw [wellAll_len hwl]; exact hlen
  refine codeAny_mono ((F _ hKb (nsK hns)).run callerA [] s₁ H ⟨vals, []⟩ vals (vals.map toV) _ _ hr e0 (hbind s₁ vals hl) hV (hsp H _ hO hS)) fun r s' x => ?_
  cases r with
  | error e => exact (hCX H e s' x).elim
  | ok fl =>
    cases fl with
    | next => exact False.elim x
    | brk => exact False.elim x
    | cont => exact False.elim x
    | ret u =>
      obtain ⟨v, H', os, bare, un, hok', r', q⟩ := x
      have kept : ∀ b o, s₁.heap.get? b = some o → s'.heap.get? b = some o := fun b o e => by
        cases q2 : H b with
        | none => exact un.keep b o e q2 (by intro z; exact absurd (show b ∈ ([] : List Addr) from z) (by simp)) (by simp)
        | some u2 =>
          rcases hO b with z | ⟨ob, u3, z⟩
          · rw [q2] at z
            cases z
          · have z2 := un.frzs b ob _ z
            obtain ⟨e1, _⟩ := hok b _ z
            obtain ⟨e2, _⟩ := hok' b _ z2
            rw [e] at e1
            cases e1
            exact e2
      have KX' : K.In s'.heap := fun b o e => kept b o (KX b o e)
      obtain ⟨as, hrd⟩ := Dw.reads (R := R) (cl := cl) hok' KX' d0 v u q r'
      exact ⟨u, as, rfl, hrd, OldK.of_keep kept, os, bare⟩
/-! ### the row -/
theorem layable_weight {ds : List WData} (h : WData.layableAll ds = true) : ∀ d ∈ ds, d.weight ≤ 1048576 := fun d hd =>
  (PySem.W.layableW_iff.mp (List.all_eq_true.mp h d hd)).2.2
theorem encAll_len : ∀ (cs : List Codec) (a : Codec.denoteAll cs), (Codec.encAll cs a).length = cs.length
  | [], _ => rfl
  | c :: cs, a => by
    show (Codec.encAll cs a.2).length + 1 = cs.length + 1
    rw [encAll_len cs a.2]
/-- the goal that k_headS leaves (case hc), from the promise of the row's def: whatever the arguments that the codecs let and the row asks for, the def gives what stands for enc (f ..) -/
theorem walk_spec {r : OpenSpec} {k : Nat} {q : Program} {loose : List Str} {XP : (Str → Option Value) → Heap → Prop} {YP : World → Heap → Prop} {d : DefRec} {K : Params → PySem.W.Frag} {CX : World → CXT} {ps : List Str} {sp : World → Sp}
    (hwell : r.wellSaid = true) (hi : importsNone q = true) (hdf : d.params.defaults = []) (hlen : r.args.length = ps.length) (hr : Room k callerA)
    (hY : ∀ (w : World) (h : Heap), YP w h → (K w.params).In h)
    (F : ∀ (w : World) (mg : Str → Option Value) (fa : Addr) (h : Heap), YP w h → (K w.params).In h → h.Ns mainGlobals mg → mg d.name = some (.ref fa) →
      ∃ fd : FuncData, (∀ (s : Shared) (us : List Value), us.length = ps.length → BindsTo s fd ⟨us, []⟩ (ps.zip us)) ∧
        ∀ base : Heap, (K w.params).In base → base.Ns mainGlobals mg → FnOk r.prog w (K w.params) mg base (CX w) k fa fd ps (sp w))
    (hsp : ∀ (w : World) (H : Hp) (xs : List V) (a : Codec.denoteAll r.args), OnlyF H → Codec.withinAll r.args a = true → Codec.app r.args r.asked a = true → DwAll (K w.params) H xs (Codec.encAll r.args a) →
      sp w xs H (fun v H' => Dw (K w.params) H' v (r.ret.enc (Codec.app r.args r.f a))) fun _ _ _ => False)
    (hCX : ∀ (w : World) (H : Hp) (s : Shared) (e : Value) (s' : Shared), CX w [] H s (fun _ _ _ => False) e s' → False) :
    PySem.W.WalkOS q loose XP YP r d [] (fun f vs => PySem.call f vs) := by
  intro w s_0 s₁ mg mb G Y fa o pm cd doc dV kV ho hd hcd hD hmg hg args vals as hpre hlay hrd hwl hlo
  obtain ⟨a, e1, e2⟩ := PySem.W.os_pre_some hpre
  obtain ⟨e3, hwi⟩ := Codec.encAll_of_decAll r.args args a e1
  subst e3
  have KX := hY w _ Y
  obtain ⟨fd, hb, hF⟩ := F w mg fa _ Y KX G.T.g hmg
  refine PySem.W.enter_call (codeAny_mono (spec_call (R := []) (cl := classAt s_0.heap) (d0 := r.ret.enc (Codec.app r.args r.f a)) KX G.T.g G.T.b G.T.builtins G.T.nolimit (G.T.seer hi) hg hwl (pl_encAll _ _) (layable_weight hlay) hr hF hb (by rw [encAll_len]; exact hlen)
    (fun H xs hO hS => hsp w H xs a hO hwi e2 hS) fun H e s' => hCX w H s₁ e s') fun r' s' hq => ?_)
  obtain ⟨u, as', rfl, h1, h2, h3, h4⟩ := hq
  exact ⟨.inl ⟨u, _, as', rfl, fun _ => rfl, h1, (OpenSpec.post_iff hwell hwi _ _).mpr rfl, fun z => Bool.noConfusion (show false = true from z)⟩, h2, h3, h4⟩
/-- the same where the promise hangs on the written part alone -/
theorem walk_specK {r : OpenSpec} {k : Nat} {q : Program} {loose : List Str} {XP : (Str → Option Value) → Heap → Prop} {YP : World → Heap → Prop} {d : DefRec} {K : Params → PySem.W.Frag} {CX : CXT} {ps : List Str} {sp : PySem.W.Frag → Sp}
    (hwell : r.wellSaid = true) (hi : importsNone q = true) (hdf : d.params.defaults = []) (hlen : r.args.length = ps.length) (hr : Room k callerA)
    (hY : ∀ (w : World) (h : Heap), YP w h → (K w.params).In h)
    (F : ∀ (w : World) (mg : Str → Option Value) (fa : Addr) (h : Heap), YP w h → (K w.params).In h → h.Ns mainGlobals mg → mg d.name = some (.ref fa) →
      ∃ fd : FuncData, (∀ (s : Shared) (us : List Value), us.length = ps.length → BindsTo s fd ⟨us, []⟩ (ps.zip us)) ∧
        ∀ base : Heap, (K w.params).In base → base.Ns mainGlobals mg → FnOk r.prog w (K w.params) mg base CX k fa fd ps (sp (K w.params)))
    (hsp : ∀ (K : PySem.W.Frag) (H : Hp) (xs : List V) (a : Codec.denoteAll r.args), OnlyF H → Codec.withinAll r.args a = true → Codec.app r.args r.asked a = true → DwAll K H xs (Codec.encAll r.args a) →
      sp K xs H (fun v H' => Dw K H' v (r.ret.enc (Codec.app r.args r.f a))) fun _ _ _ => False)
    (hCX : ∀ (H : Hp) (s : Shared) (e : Value) (s' : Shared), CX [] H s (fun _ _ _ => False) e s' → False) :
    PySem.W.WalkOS q loose XP YP r d [] (fun f vs => PySem.call f vs) :=
  walk_spec (K := K) (CX := fun _ => CX) (sp := fun w => sp (K w.params)) hwell hi hdf hlen hr hY F (fun w H xs a h1 h2 h3 h4 => hsp (K w.params) H xs a h1 h2 h3 h4) fun _ H s e s' => hCX H s e s'
end L2

set_option Elab.async false
set_option linter.all false
set_option maxRecDepth 100000
set_option maxHeartbeats 2000000
namespace L2.XC
open PySem PySem.Spec PyProof.Rows
open Builtin Builtin.ObjectAttr
/-- the classes above an own error class -/
abbrev bmE : List Value := [.type "Exception", .type "BaseException", .type "object"]
section
variable {prog : Program} {w : World} {A : Around} {E : Value → Shared → Prop} {h : Heap} {g : Array GenState} {d : Drawn} {t : Nat} {os : OsState}
variable {nm q : Str} {C N x : Addr} {bs : List Value} {sn : List Str} {sub : List Value} {ab : Bool} {col : Option Bool} {dd : Option Addr}
variable {k0 k1 k2 k3 k5 : Option Value} {mN : Str → Option Value} {name : Str} {v : Value} {o : Obj} {ni : String}
/-- the first attribute of an exception: its dict is laid at the heap's end -/
theorem put_entry {tk : Tok} {Q : Fin → Shared → Prop} (hC : h.get? C = some (excClassObj nm q C N bs bmE true sn sub ab col dd k0 k1 k2 k3 k5 ni))
    (hn : h.Ns N mN) (hna : mN name = none) (hB : typeLookup (.type "Exception") name = pure none)
    (hx : h.get? x = some o) (hc : o.cls = .ref C) (hdn : o.dict = none) (hnc : ∀ c, o.data ≠ .cls c)
    (hq : ∀ h' tk', h'.get? x = some { o with dict := some h.objs.size } → h'.Ns1 h.objs.size (fun y => if y = name then some v else none) →
      (∀ b u, b ≠ x → h.get? b = some u → h'.get? b = some u) → Q (.done (.ret .none)) ⟨h', g, d, tk', os⟩) :
    wpAny (model prog w) A (Builtin.«object.__setattr__» ⟨[.ref x, .str name tk, v], []⟩) Q E ⟨h, g, d, t, os⟩ := by
  have SF := PySem.F.store_Exception
  have hp := SF.passes (.ref x)
  have hxs : x ≠ h.objs.size := Nat.ne_of_lt (Heap.lt_size hx)
  unfold Builtin.«object.__setattr__»
  repeat (first
    | rw [refuse_eq]
    | rw [refuseLoop_ref, hp]
    | (with_reducible refine wpAny_loadPart_at hx ?_; rw [hc])
    | with_reducible refine wpAny_mroOf_exc hC ?_
    | (with_reducible refine wpAny_typeLookup_exc hC hn SF.mro hB ?_; rw [hna])
    | wp_step)
  rw [hdn, if_neg (by simp [typeHasDict])]
  split
  · rename_i z
    cases z
  split
  · rename_i c z
    exact absurd z (hnc c)
  · have hx1 : (h.push { cls := .type "dict", data := .dict #[] }).get? x = some o := Heap.get?_push_of_some _ hx
    refine wpAny_bind (wpAny_alloc' (wpAny_bind (wpAny_update' hx1 (wpAny_pure ?_))))
    generalize hU : ((h.push { cls := .type "dict", data := .dict #[] }).update x fun o => { cls := o.cls, dict := some h.objs.size, data := o.data, slots := o.slots }) = hh
    have e1 : hh.get? h.objs.size = some { cls := .type "dict", data := .dict #[] } := by
      rw [← hU]
      exact (Heap.get?_update_ne _ _ _ _ hxs.symm).trans (Heap.get?_push_at rfl rfl)
    have e2 : hh.get? x = some { o with dict := some h.objs.size } := by
      rw [← hU]
      refine Heap.get?_update_self _ hx1 ?_
      have hfr := (Heap.get?_some_iff.mp hx).2
      obtain ⟨oc, od, odt, osl⟩ := o
      cases odt <;> first | rfl | exact hfr
    have e3 : ∀ b u, b ≠ x → h.get? b = some u → hh.get? b = some u := fun b u hb hbu => by
      rw [← hU]
      exact (Heap.get?_update_ne _ _ _ _ hb).trans (Heap.get?_push_of_some _ hbu)
    have e4 : hh.Ns h.objs.size (fun _ => none) := ⟨_, #[], _, e1, rfl, fun e he => absurd he (by simp), fun _ => rfl⟩
    show wpAny _ _ (storeInDict h.objs.size (.str name tk) name v) _ _ _
    unfold storeInDict newKeyGuard
    refine wpAny_bind (wpAny_pure (wpAny_bind (wpAny_nsSet1 (Heap.Ns1.of_empty e4) fun h' n1 sb => ?_)))
    obtain ⟨oD, esD, epD, hoD, hdD, hcD⟩ := n1.count (Within.cons name v Within.nil)
    refine wpAny_bind (wpAny_lookBehind hoD (by rw [hdD]; exact pastItsLine_dict (Nat.le_trans hcD (by rw [List.length_cons, List.length_nil, sizeLine_eq]; omega))) ?_)
    wp_walk
    exact hq h' _ ((sb.2 x hxs).trans e2) n1 fun b u hb hbu => (sb.2 b (Nat.ne_of_lt (Heap.lt_size hbu))).trans (e3 b u hb hbu)
/-- a further one: its dict is there -/
theorem put_entry2 {tk : Tok} {Q : Fin → Shared → Prop} {dx : Addr} {mA : Str → Option Value} {ns : List Str} (hC : h.get? C = some (excClassObj nm q C N bs bmE true sn sub ab col dd k0 k1 k2 k3 k5 ni))
    (hn : h.Ns N mN) (hna : mN name = none) (hB : typeLookup (.type "Exception") name = pure none)
    (hx : h.get? x = some o) (hc : o.cls = .ref C) (hdn : o.dict = some dx) (hne : dx ≠ x) (hns : h.Ns1 dx mA) (hw : Within mA ns) (hsz : ns.length ≤ 1000)
    (hq : ∀ h' tk', h'.Ns1 dx (fun y => if y = name then some v else mA y) →
      (∀ b u, b ≠ dx → h.get? b = some u → h'.get? b = some u) → Q (.done (.ret .none)) ⟨h', g, d, tk', os⟩) :
    wpAny (model prog w) A (Builtin.«object.__setattr__» ⟨[.ref x, .str name tk, v], []⟩) Q E ⟨h, g, d, t, os⟩ := by
  have SF := PySem.F.store_Exception
  have hp := SF.passes (.ref x)
  unfold Builtin.«object.__setattr__»
  repeat (first
    | rw [refuse_eq]
    | rw [refuseLoop_ref, hp]
    | (with_reducible refine wpAny_loadPart_at hx ?_; rw [hc])
    | with_reducible refine wpAny_mroOf_exc hC ?_
    | (with_reducible refine wpAny_typeLookup_exc hC hn SF.mro hB ?_; rw [hna])
    | wp_step)
  rw [hdn]
  refine wpAny_pure ?_
  show wpAny _ _ (storeInDict dx (.str name tk) name v) _ _ _
  unfold storeInDict newKeyGuard
  refine wpAny_bind (wpAny_pure (wpAny_bind (wpAny_nsSet1 hns fun h' n1 sb => ?_)))
  obtain ⟨oD, esD, epD, hoD, hdD, hcD⟩ := n1.count (Within.cons name v hw)
  refine wpAny_bind (wpAny_lookBehind hoD (by rw [hdD]; exact pastItsLine_dict (Nat.le_trans hcD (by rw [List.length_cons, sizeLine_eq]; omega))) ?_)
  wp_walk
  exact hq h' _ n1 fun b u hb hbu => (sb.2 b hb).trans hbu
/-- setAttr, from what object.__setattr__ does -/
theorem put_call {R : Result → Shared → Prop} {tk : Tok} {B sa owner : String} {bm : List Value} (SF : StoreFacts B bm sa owner) (hC : h.get? C = some (excClassObj nm q C N bs bm true sn sub ab col dd k0 k1 k2 k3 k5 ni))
    (hx : h.get? x = some o) (hc : o.cls = .ref C)
    (hq : ∀ (A : Around) (T : Fin → Shared → Prop) (E : Value → Shared → Prop), (∀ s', R (.ok (.ret .none)) s' → T (.done (.ret .none)) s') →
      wpAny (model prog w) A (Builtin.«object.__setattr__» ⟨[.ref x, .str name tk, v], []⟩) T E ⟨h, g, d, t, os⟩) :
    codeAny (model prog w) A (.call (.builtin sa) ⟨[.ref x, .str name tk, v], []⟩) R ⟨h, g, d, t, os⟩ := by
  refine codeAny_call_builtin SF.slot.plain SF.entry (wpAny_check_sa SF hC hx hc ?_)
  refine hq _ _ _ ?_
  intro s' z
  exact z
theorem put_attr {Q : Unit → Shared → Prop} {B sa owner : String} {bm : List Value} (SF : StoreFacts B bm sa owner) (hC : h.get? C = some (excClassObj nm q C N bs bm true sn sub ab col dd k0 k1 k2 k3 k5 ni))
    (hn : h.Ns N mN) (hns : mN "__setattr__" = none) (hx : h.get? x = some o) (hc : o.cls = .ref C)
    (hq : ∀ (A : Around) (R : Result → Shared → Prop) (tk t' : Nat), (∀ s', Q () s' → R (.ok (.ret .none)) s') →
      codeAny (model prog w) A (.call (.builtin sa) ⟨[.ref x, .str name tk, v], []⟩) R ⟨h, g, d, t', os⟩) :
    wpAny (model prog w) A (setAttr (.ref x) name v) Q E ⟨h, g, d, t, os⟩ := by
  have f3 := SF.slot.bind (.ref x)
  unfold setAttr callSpecial? specialOf
  repeat (any_goals (first
    | assumption
    | (with_reducible refine wpAny_loadPart_at hx ?_; rw [hc])
    | (with_reducible refine wpAny_typeLookup_exc hC hn SF.mro SF.slot.lookup ?_; rw [hns])
    | wp_step))
  refine hq _ _ _ _ fun s' z => ?_
  obtain ⟨hh, gg, dd', tt, oo⟩ := s'
  repeat (any_goals (first | (with_reducible assumption) | wp_step))
end
end L2.XC

set_option Elab.async false
set_option linter.all false
set_option maxRecDepth 100000
set_option maxHeartbeats 2000000
namespace L2.XC
open PySem PySem.Spec PyProof.Rows
open Builtin Builtin.ObjectAttr
section
variable {prog : Program} {w : World} {A : Around} {E : Value → Shared → Prop} {h : Heap} {g : Array GenState} {d : Drawn} {t : Nat} {os : OsState}
variable {nm q : Str} {C N x dx : Addr} {bs : List Value} {sn : List Str} {sub : List Value} {ab : Bool} {col : Option Bool} {dd : Option Addr}
variable {k0 k1 k2 k3 k5 : Option Value} {mN mA : Str → Option Value} {name : Str} {v : Value} {o : Obj} {ni : String}
end
end L2.XC

set_option Elab.async false
set_option linter.all false
set_option maxRecDepth 100000
set_option maxHeartbeats 2000000
namespace L2.XC
open PySem PySem.Spec PyProof.Rows
/-- an exception with a dict, its traceback begun: no frame holds it -/
def Landed (h : Heap) (e C dx : Addr) : Prop :=
  ∃ o vs T oT ts, h.get? e = some o ∧ o.cls = .ref C ∧ o.dict = some dx ∧ o.data = .fields vs ∧ vs[1]? = some (.ref T) ∧ T ≠ e ∧ h.get? T = some oT ∧ oT.data = .fields ts ∧ ts[3]? = some .none
/-- just raised: no traceback yet -/
def Fresh (h : Heap) (e C dx : Addr) : Prop := ∃ o vs, h.get? e = some o ∧ o.cls = .ref C ∧ o.dict = some dx ∧ o.data = .fields vs ∧ vs[1]? = some .none
def Fly (h : Heap) (e C dx : Addr) : Prop := Fresh h e C dx ∨ Landed h e C dx
/-- all but the exception and the frames' slots is kept -/
structure Kept (fs : List Addr) (e : Addr) (h h' : Heap) : Prop where
  keep : ∀ b o, b ∉ fs → b ≠ e → h.get? b = some o → h'.get? b = some o
  slot : ∀ b o, b ∈ fs → h.get? b = some o → ∃ sl, h'.get? b = some { o with slots := sl }
section
variable {M : Model} {A : Around} {E E' : Value → Shared → Prop} {s : Shared}
/-- an entry is laid at the end, marked, then the mark is taken away -/
theorem entry_land {base : Heap} {env : Env} {outer : List Env} {L e C dx : Addr} {o : Obj} {vs : Array Value} {head : Value} {had : Bool} {Q : Unit → Shared → Prop}
    (hfr : A.frames = some (env :: outer)) (hl : s.heap.FunFrames base (env :: outer)) (hf : env.frame = some L)
    (he : s.heap.get? e = some o) (hc : o.cls = .ref C) (hdx : o.dict = some dx) (hd : o.data = .fields vs) (hsz : 1 < vs.size)
    (h : ∀ h', Landed h' e C dx → Kept (frs (env :: outer)) e s.heap h' → Q () { s with heap := h' }) :
    wpAny M A (do
      let fo ← frameOf env
      let pl ← entryPlaceOf L had
      let b ← EntryCells.newEntry head fo .none (rawInt L) .none pl
      setField (.ref e) 1 b) (fun _ s' => wpAny M A (setFlight (.ref e) none) Q E s') E' s := by
  have nfr : e ∉ frs (env :: outer) := fun hm => by
    obtain ⟨_, ob, ho, hnf⟩ := hl.mem hm
    rw [he] at ho
    cases ho
    exact hnf vs hd
  refine wpAny_bind (wpAny_frameOf_fun hfr hl hf fun h1 hs => ?_)
  refine wpAny_bind (wpAny_entryPlaceOf fun pl hpl => ?_)
  unfold EntryCells.newEntry newFields
  refine wpAny_bind (wpAny_newObj_type ?_ (hpl.sizeOk5 _ _ _ _ _))
  generalize hX : ({ cls := .type "traceback", dict := none, data := .fields ([head, .ref L, .none, rawInt L, .none] ++ (if pl.isEmpty then List.replicate 6 Value.none else pl)).toArray } : Obj) = X
  have e1 : h1.get? e = some o := (hs.2.1 e nfr).trans he
  have e2 : (h1.push X).get? e = some o := Heap.get?_push_of_some _ e1
  refine wpAny_setField e2 hd hsz ?_
  have nT : h1.objs.size ≠ e := Nat.ne_of_gt (Heap.lt_size e1)
  have d3 := Obj.data_mapFields hd (·.setIfInBounds 1 (Value.ref h1.objs.size))
  have e3 := Heap.get?_update_self (Obj.mapFields (·.setIfInBounds 1 (Value.ref h1.objs.size))) e2 (Obj.isFreed_of_fields d3)
  have xf : ∃ ts : Array Value, X.data = .fields ts ∧ 3 < ts.size := by
    rw [← hX]
    exact ⟨_, rfl, by simp only [List.size_toArray, List.length_append, List.length_cons, List.length_nil]; omega⟩
  obtain ⟨ts, xd, x3⟩ := xf
  have xn : X.isFreed = false := Obj.isFreed_of_fields xd
  have t3 : ((h1.push X).update e (Obj.mapFields (·.setIfInBounds 1 (Value.ref h1.objs.size)))).get? h1.objs.size = some X :=
    (Heap.get?_update_other _ _ (Ne.symm nT)).trans (Heap.get?_push_size h1 xn)
  unfold setFlight
  refine wpAny_bind (wpAny_field e3 d3 (x := .ref h1.objs.size) (by simp [hsz]) ?_)
  rw [if_pos (show (Value.ref h1.objs.size != Value.none) = true from by simp)]
  refine wpAny_setField t3 xd x3 (h _ ?_ ⟨fun b ob nb ne hb => ?_, fun b ob nb hb => ?_⟩)
  · refine ⟨_, _, h1.objs.size, _, _, (Heap.get?_update_other _ _ nT).trans e3, ?_, ?_, d3, by simp [hsz], nT, Heap.get?_update_self _ t3 (Obj.isFreed_of_fields (Obj.data_mapFields xd _)), Obj.data_mapFields xd _, ?_⟩
    · rw [Obj.cls_mapFields]
      exact hc
    · obtain ⟨c1, c2, c3, c4⟩ := o
      cases hd
      exact hdx
    · simp [x3]
  · have q : h1.get? b = some ob := (hs.2.1 b nb).trans hb
    rw [Heap.get?_update_other _ _ (Nat.ne_of_gt (Heap.lt_size q)), Heap.get?_update_other _ _ (Ne.symm ne)]
    exact Heap.get?_push_of_some _ q
  · obtain ⟨sl, q⟩ := hs.2.2 b ob hb
    have ne : b ≠ e := fun z => nfr (z ▸ nb)
    refine ⟨sl, ?_⟩
    rw [Heap.get?_update_other _ _ (Nat.ne_of_gt (Heap.lt_size q)), Heap.get?_update_other _ _ (Ne.symm ne)]
    exact Heap.get?_push_of_some _ q
/-- an exception comes to this frame and is let go -/
theorem fly_land {base : Heap} {env : Env} {outer : List Env} {L e C dx : Addr} {Q : Unit → Shared → Prop}
    (hfr : A.frames = some (env :: outer)) (hl : s.heap.FunFrames base (env :: outer)) (hf : env.frame = some L) (x : Fly s.heap e C dx)
    (h : ∀ h', Landed h' e C dx → Kept (frs (env :: outer)) e s.heap h' → Q () { s with heap := h' }) :
    wpAny M A (noteFrame (.ref e) env) (fun _ s' => wpAny M A (setFlight (.ref e) none) Q E s') E' s := by
  unfold noteFrame
  simp only [hf]
  rcases x with ⟨o, vs, he, hc, hdx, hd, h1⟩ | ⟨o, vs, T, oT, ts, he, hc, hdx, hd, h1, hTe, hT, hdT, h3⟩
  · refine wpAny_bind (wpAny_field he hd h1 ?_)
    rw [if_neg (by decide)]
    exact entry_land hfr hl hf he hc hdx hd (Array.getElem?_eq_some_iff.mp h1).1 h
  · refine wpAny_bind (wpAny_field he hd h1 ?_)
    rw [if_pos (show (Value.ref T != Value.none) = true from by simp)]
    refine wpAny_bind (wpAny_field hT hdT h3 ?_)
    rw [if_neg (show ¬ ((Value.none == rawInt L) = true) from by simp [rawInt])]
    refine wpAny_bind (wpAny_setField hT hdT (Array.getElem?_eq_some_iff.mp h3).1 ?_)
    rw [Heap.update_setField_same s.heap T oT ts 3 .none hT hdT h3]
    exact entry_land hfr hl hf he hc hdx hd (Array.getElem?_eq_some_iff.mp h1).1 h
theorem fly_leave {base : Heap} {env : Env} {outer : List Env} {L e C dx : Addr} {Q : Unit → Shared → Prop}
    (hfr : A.frames = some (env :: outer)) (hl : s.heap.FunFrames base (env :: outer)) (hf : env.frame = some L) (x : Fly s.heap e C dx)
    (h : ∀ h', Landed h' e C dx → Kept (frs (env :: outer)) e s.heap h' → Q () { s with heap := h' }) : wpAny M A (leaving env (.ref e)) Q E s := by
  unfold leaving
  exact wpAny_bind (fly_land hfr hl hf x h)
/-- let go once more: nothing turns -/
theorem landed_again {e C dx : Addr} {Q : Unit → Shared → Prop} (x : Landed s.heap e C dx) (h : Q () s) : wpAny M A (setFlight (.ref e) none) Q E s := by
  obtain ⟨o, vs, T, oT, ts, he, hc, hdx, hd, h1, hTe, hT, hdT, h3⟩ := x
  unfold setFlight
  refine wpAny_bind (wpAny_field he hd h1 ?_)
  rw [if_pos (show (Value.ref T != Value.none) = true from by simp)]
  refine wpAny_setField hT hdT (Array.getElem?_eq_some_iff.mp h3).1 ?_
  show Q () { s with heap := s.heap.update T (Obj.mapFields (·.setIfInBounds 3 Value.none)) }
  rw [Heap.update_setField_same s.heap T oT ts 3 .none hT hdT h3]
  exact h
end
end L2.XC

set_option Elab.async false
set_option linter.all false
set_option maxRecDepth 100000
set_option maxHeartbeats 2000000
namespace L2.XC
open PySem PySem.Spec PyProof.Rows
/-! ### what is tracked of an exception -/
/-- the object, without its traceback; d: its dict -/
def XE (e C : Addr) (d : Option Addr) : HO := .ext fun h => ∃ o vs, h.get? e = some o ∧ o.cls = .ref C ∧ o.dict = d ∧ o.data = .fields vs ∧ vs[1]? = some .none
/-- the object, caught -/
def XL (e C dx : Addr) : HO := .ext fun h => ∃ o vs, h.get? e = some o ∧ o.cls = .ref C ∧ o.dict = some dx ∧ o.data = .fields vs
/-- its dict -/
def XD (dx : Addr) (fs : List (Str × V)) : HO := .ext fun h => ∃ mA, h.Ns1 dx mA ∧ (∀ f, RelO (fs.lookup f) (mA f)) ∧ PySem.Within mA (fs.map (·.1))
theorem xe_ok {P : Program} {w : World} {H : Hp} {h : Heap} {e C : Addr} {d : Option Addr} {o : Obj} {vs : Array Value} (h1 : h.get? e = some o) (h2 : o.cls = .ref C) (h3 : o.dict = d) (h4 : o.data = .fields vs) (h5 : vs[1]? = some .none) : ObjOk P w H h e (XE e C d) :=
  ⟨⟨o, vs, h1, h2, h3, h4, h5⟩, ⟨o, h1⟩, fun _ _ ⟨o, vs, a, b⟩ k => ⟨o, vs, k o a, b⟩⟩
theorem xl_ok {P : Program} {w : World} {H : Hp} {h : Heap} {e C dx : Addr} {o : Obj} {vs : Array Value} (h1 : h.get? e = some o) (h2 : o.cls = .ref C) (h3 : o.dict = some dx) (h4 : o.data = .fields vs) : ObjOk P w H h e (XL e C dx) :=
  ⟨⟨o, vs, h1, h2, h3, h4⟩, ⟨o, h1⟩, fun _ _ ⟨o, vs, a, b⟩ k => ⟨o, vs, k o a, b⟩⟩
theorem xd_ok {P : Program} {w : World} {H : Hp} {h : Heap} {dx : Addr} {fs : List (Str × V)} {mA : Str → Option Value} (h1 : h.Ns1 dx mA) (h2 : ∀ f, RelO (fs.lookup f) (mA f)) (h3 : PySem.Within mA (fs.map (·.1))) : ObjOk P w H h dx (XD dx fs) :=
  ⟨⟨mA, h1, h2, h3⟩, (let ⟨o, _, _, q, _⟩ := h1; ⟨o, q⟩), fun _ _ ⟨mA, n, r⟩ k => ⟨mA, n.at fun o q => k o q, r⟩⟩
theorem xe_of {P : Program} {w : World} {H : Hp} {h : Heap} {e C : Addr} {d : Option Addr} (x : HOk P w H h) (q : H e = some (XE e C d)) : ∃ o vs, h.get? e = some o ∧ o.cls = .ref C ∧ o.dict = d ∧ o.data = .fields vs ∧ vs[1]? = some .none := (x e _ q).1
theorem xl_of {P : Program} {w : World} {H : Hp} {h : Heap} {e C dx : Addr} (x : HOk P w H h) (q : H e = some (XL e C dx)) : ∃ o vs, h.get? e = some o ∧ o.cls = .ref C ∧ o.dict = some dx ∧ o.data = .fields vs := (x e _ q).1
theorem xd_of {P : Program} {w : World} {H : Hp} {h : Heap} {dx : Addr} {fs : List (Str × V)} (x : HOk P w H h) (q : H dx = some (XD dx fs)) : ∃ mA, h.Ns1 dx mA ∧ (∀ f, RelO (fs.lookup f) (mA f)) ∧ PySem.Within mA (fs.map (·.1)) := (x dx _ q).1
/-! ### a thing is no longer tracked -/
def untr (H : Hp) (e : Addr) : Hp := fun b => if b = e then none else H b
theorem untr_same {H : Hp} {e : Addr} : untr H e e = none := by unfold untr; rw [if_pos rfl]
theorem untr_ne {H : Hp} {e b : Addr} (h : b ≠ e) : untr H e b = H b := by unfold untr; rw [if_neg h]
theorem untr_none {H : Hp} {e b : Addr} (h : H b = none) : untr H e b = none := by
  by_cases q : b = e
  · rw [q]; exact untr_same
  · rw [untr_ne q]; exact h
theorem HOk_untr {P : Program} {w : World} {H : Hp} {h : Heap} {e : Addr} {φ : Heap → Prop} (x : HOk P w H h) (he : H e = some (.ext φ)) : HOk P w (untr H e) h := fun a o q => by
  by_cases z : a = e
  · rw [z, untr_same] at q; cases q
  · rw [untr_ne z] at q
    refine (x a o q).stay (fun _ _ _ r => r) (fun b r => ?_) fun b xs r => ?_
    · rw [untr_ne (ne_of r he (by intro y; cases y))]; exact r
    · rw [untr_ne (ne_of r he (by intro y; cases y))]; exact r
theorem Un_untr {fs ex : List Addr} {H H' : Hp} {h h' : Heap} {e : Addr} {φ : Heap → Prop} (u : Un fs ex H H' h h') (he : H' e = some (.ext φ)) : Un fs ex H (untr H' e) h h' :=
  ⟨u.keep, u.slot, fun b o q n hx => untr_none (u.free b o q n hx), u.there,
    fun b xs q => by rw [untr_ne (ne_of (u.tups b xs q) he (by intro y; cases y))]; exact u.tups b xs q,
    fun b o xs q => by rw [untr_ne (ne_of (u.frzs b o xs q) he (by intro y; cases y))]; exact u.frzs b o xs q,
    fun b ps q => by
      obtain ⟨m, r⟩ := u.tbls b ps q
      exact ⟨m, by rw [untr_ne (ne_of r he (by intro y; cases y))]; exact r⟩⟩
section
variable {X : Cx} {pins : List (Addr × Obj)} {σ : St} {H H' : Hp} {s : Shared}
theorem Inv_untr {e : Addr} {φ : Heap → Prop} (I : Inv X pins σ H s) (he : H e = some (.ext φ)) : Inv X pins σ (untr H e) s :=
  ⟨I.ok, I.os, I.bare, Un_untr I.base he, I.loc, I.cell, untr_none I.free, fun x c q => untr_none (I.freeC x c q),
    fun p hp => let ⟨a, b, c⟩ := I.pin p hp; ⟨a, untr_none b, c⟩, HOk_untr I.hok he, I.len⟩
/-- younger than the entry, not the frame's, no pin -/
structure Young (X : Cx) (pins : List (Addr × Obj)) (e : Addr) : Prop where
  new : X.s_0.heap.get? e = none
  loc : e ≠ X.env.locals
  cel : ∀ x c, X.env.cells.lookup x = some c → c ≠ e
  pin : ∀ p ∈ X.pn ++ pins, p.1 ≠ e
  out : e ∉ X.fs
theorem Inv_young {e : Addr} (I : Inv X pins σ H s) (hx : X.ex = []) (he : s.heap.get? e = none) : Young X pins e := by
  refine ⟨?_, ?_, fun x c q z => ?_, fun p hp z => ?_, fun z => ?_⟩
  · cases q : X.s_0.heap.get? e with
    | none => rfl
    | some o =>
      obtain ⟨o', r⟩ := I.base.there e o q (by rw [hx]; simp)
      rw [he] at r; cases r
  · intro z
    obtain ⟨m, ⟨o, _, _, ho, _⟩, _⟩ := I.loc
    rw [← z, he] at ho; cases ho
  · obtain ⟨v, o, ho, _⟩ := I.cell x c q
    rw [z, he] at ho; cases ho
  · obtain ⟨a, _⟩ := I.pin p hp
    rw [z, he] at a; cases a
  · obtain ⟨_, o, ho, _⟩ := I.funs.mem z
    rw [he] at ho; cases ho
/-- it is tracked (again) -/
theorem Inv_track {e : Addr} {o : HO} (I : Inv X pins σ H s) (y : Young X pins e) (hn : H e = none) (ok : ObjOk X.prog X.w (upd H e o) s.heap e o) : Inv X pins σ (upd H e o) s := by
  refine ⟨I.ok, I.os, I.bare, ⟨I.base.keep, I.base.slot, fun b u q n hx => ?_, I.base.there, fun b xs q => ?_, fun b u xs q => ?_, fun b ps q => ?_⟩, I.loc, I.cell, ?_, fun x c q => ?_, fun p hp => ?_, fun b u q => ?_, I.len⟩
  · rw [upd_ne (fun z => by rw [z, y.new] at q; cases q)]
    exact I.base.free b u q n hx
  · rw [upd_ne (ne_of_none (I.base.tups b xs q) hn)]; exact I.base.tups b xs q
  · rw [upd_ne (ne_of_none (I.base.frzs b u xs q) hn)]; exact I.base.frzs b u xs q
  · obtain ⟨m, r⟩ := I.base.tbls b ps q
    exact ⟨m, by rw [upd_ne (ne_of_none r hn)]; exact r⟩
  · rw [upd_ne (Ne.symm y.loc)]; exact I.free
  · rw [upd_ne (y.cel x c q)]; exact I.freeC x c q
  · obtain ⟨a, b, c⟩ := I.pin p hp
    exact ⟨a, by rw [upd_ne (y.pin p hp)]; exact b, c⟩
  · by_cases z : b = e
    · subst z
      rw [upd_same] at q
      cases q
      exact ok
    · rw [upd_ne z] at q
      exact (I.hok b u q).stay (fun _ _ _ r => r) (fun c r => by rw [upd_ne (ne_of_none r hn)]; exact r) fun c xs r => by rw [upd_ne (ne_of_none r hn)]; exact r
/-- this frame has let the exception go: all stands as it was -/
theorem Inv_kept {e : Addr} {h' : Heap} (I : Inv X pins σ H s) (hn : H e = none) (y : Young X pins e) (k : Kept (frs X.stack) e s.heap h') : Inv X pins σ H { s with heap := h' } := by
  have nst : e ∉ frs X.stack := fun z => by
    rcases List.mem_cons.mp (I.stkSub e z) with q | q
    · exact y.loc q
    · exact y.out q
  obtain ⟨m, ⟨o, es, ep, ho, r⟩, _⟩ := id I.loc
  have up : ∀ b u, b ≠ e → s.heap.get? b = some u → ∃ sl, h'.get? b = some { u with slots := sl } := fun b u hb q => by
    by_cases z : b ∈ frs X.stack
    · exact k.slot b u z q
    · exact ⟨u.slots, k.keep b u z hb q⟩
  have nH : ∀ b u, H b = some u → b ∉ frs X.stack := fun b u q z => by rw [I.stkFree b z] at q; cases q
  have n0 : ∀ b u, X.s_0.heap.get? b = some u → b ≠ e := fun b u q z => by rw [z, y.new] at q; cases q
  have nl : ∀ b u, X.s_0.heap.get? b = some u → b ≠ X.env.locals := fun b u q => Nat.ne_of_lt (Nat.lt_of_lt_of_le (Heap.lt_size q) I.ok.above)
  have cl : ∀ x c v, X.env.cells.lookup x = some c → s.heap.IsCell c v → h'.IsCell c v := fun x c v q ⟨u, hu, hd⟩ => by
    obtain ⟨sl, z⟩ := up c u (y.cel x c q) hu
    exact ⟨_, z, hd⟩
  refine ⟨I.ok, I.os, I.bare, ⟨fun b u q n hb hx => ?_, fun b u q n hb hx => ?_, I.base.free, fun b u q hx => ?_, I.base.tups, I.base.frzs, I.base.tbls⟩, ?_, fun x c q => ?_, I.free, I.freeC, fun p hp => ?_, fun b u q => ?_, I.len⟩
  · exact k.keep b u (fun z => (List.mem_cons.mp (I.stkSub b z)).elim (nl b u q) hb) (n0 b u q) (I.base.keep b u q n hb hx)
  · obtain ⟨sl, z⟩ := I.base.slot b u q n hb hx
    obtain ⟨sl', z'⟩ := up b _ (n0 b u q) z
    exact ⟨sl', z'⟩
  · obtain ⟨u', z⟩ := I.base.there b u q hx
    obtain ⟨sl, z'⟩ := up b _ (n0 b u q) z
    exact ⟨_, z'⟩
  · obtain ⟨m', hm, hl⟩ := I.loc
    refine ⟨m', ?_, fun i x v e1 e2 e3 => ?_⟩
    · obtain ⟨o', es', ep', ho', r'⟩ := hm
      obtain ⟨sl, z⟩ := up _ o' (Ne.symm y.loc) ho'
      exact ⟨_, es', ep', z, r'⟩
    · obtain ⟨u, ru, l⟩ := hl i x v e1 e2 e3
      refine ⟨u, ru, ?_⟩
      rcases l with l | ⟨kk, c, ec, z⟩
      · exact .inl l
      · exact .inr ⟨kk, c, ec, cl x c _ ec z⟩
  · obtain ⟨v, z⟩ := I.cell x c q
    exact ⟨v, cl x c v q z⟩
  · obtain ⟨a1, a2, a3, a4, a5⟩ := I.pin p hp
    exact ⟨k.keep p.1 p.2 (fun z => (List.mem_cons.mp (I.stkSub p.1 z)).elim a3 a4) (y.pin p hp) a1, a2, a3, a4, a5⟩
  · refine (I.hok b u q).stay (fun c v hc r' => k.keep c v ?_ ?_ r') (fun _ z => z) fun _ _ z => z
    · rcases hc with z | z
      · rw [z]; exact nH b u q
      · exact nH c _ z
    · rcases hc with z | z
      · rw [z]; exact ne_of_none q hn
      · exact ne_of_none z hn
end
end L2.XC

set_option Elab.async false
set_option linter.all false
set_option maxRecDepth 100000
set_option maxHeartbeats 2000000
namespace L2.XC
open PySem PySem.Spec PyProof.Rows
/-! ### how an exception leaves a call -/
def CXF (P : Program) (w : World) : CXT := fun outer H s E x s' => ∃ e C dx H', x = .ref e ∧ s'.os = s.os ∧ AllBare s'.gens ∧ Un (frs outer) [] H H' s.heap s'.heap ∧ HOk P w H' s'.heap ∧
  Landed s'.heap e C dx ∧ s.heap.get? e = none ∧ H' e = none ∧ E (.ref C) (some dx) H'
/-- an exception that flies in this body reaches what is wished of exceptions -/
def Flies (X : Cx) (E : XK) : Prop := ∀ (pins : List (Addr × Obj)) (σ : St) (H : Hp) (s : Shared) (e C dx : Addr), Inv X pins σ H s → Fly s.heap e C dx → H e = none → Young X pins e → E (.ref C) (some dx) H → X.xe (.ref e) s
theorem flies_cx {P : Program} {w : World} {K : PySem.W.Frag} {mg : Str → Option Value} {base : Heap} {N : List Str} {qual : Str} {scope : Scope} {f : Addr} {cd : Value} {A : Around} {outer : List Env} {s : Shared} {H : Hp} {E : XK} :
    Flies (cxOf (CXF P w) P w K mg base N qual scope f cd A outer s H E) E := by
  intro pins σ H1 s1 e C dx I fl hn y q
  refine fly_leave (outer := outer) (L := s.heap.objs.size) I.ok.frames I.stack rfl fl fun h' ld k => ?_
  have I' := Inv_kept I hn y k
  exact ⟨e, C, dx, H1, rfl, I'.os, I'.bare, I'.base, I'.hok, ld, y.new, hn, q⟩
theorem passes_of {X : Cx} {E : XK} (hf : Flies X E) (hx : X.ex = []) : Passes (CXF X.prog X.w) X E := by
  rintro pins σ H s e s' I ⟨e', C, dx, H', rfl, os, bare, un, hok, ld, new, hn, q⟩
  exact hf pins σ H' s' e' C dx (I.call' os un hok bare (ch := []) fun b z => absurd z (by simp)) (.inr ld) hn (Inv_young I hx new) q
section
variable {P : Program} {w : World} {K : PySem.W.Frag} {mg : Str → Option Value} {base : Heap}
/-- a def that may raise -/
theorem okX {x qual : Str} {st : Stmt} {f : Addr} {fd : FuncData} {N ps : List Str} {k : Nat} {sp : Sp} (F : Fun K x qual st f fd) (S : FnScope N ps (defScope st)) (len : ∀ vs H Q E, sp vs H Q E → vs.length = ps.length)
    (hbody : ∀ (cdv : Value) (A : Around) (outer : List Env) (s : Shared) (H : Hp) (vs : List V) (Q : VK) (E : XK), Room k (A.deeper (envOfC qual (defScope st) s.heap.objs.size f cdv)) → sp vs H Q E →
      ∃ t, PSs (cxOf (CXF P w) P w K mg base N qual (defScope st) f cdv A outer s H E) (defBody st) t ∧ t { nx := fun _ H' => Q .non H', rt := Q } (start N vs) H) : FnOk P w K mg base (CXF P w) (k + 1) f fd ps sp := by
  obtain ⟨oc, od, kV, doc, pm, an, cdv, ct, osl, rfl, lk, hcd⟩ := F.ex
  exact fn_of lk hcd S len fun A outer s H vs Q E hr hsp => hbody cdv A outer s H vs Q E hr hsp
theorem passX {N : List Str} {qual : Str} {scope : Scope} {f : Addr} {cd : Value} {A : Around} {outer : List Env} {s : Shared} {H : Hp} {E : XK} :
    Passes (CXF P w) (cxOf (CXF P w) P w K mg base N qual scope f cd A outer s H E) E := passes_of flies_cx rfl
end
/-! ### an own error class with an __init__ -/
def keysOk (o : Obj) : Bool := match o.data with
  | .dict es _ => es.all fun e => match e.key with | .str _ _ => true | _ => false
  | _ => false
structure XCls (K : PySem.W.Frag) (C fI : Addr) : Prop where
  ex : ∃ (nm q : Str) (N : Addr) (bs : List Value) (sn : List Str) (sub : List Value) (ab : Bool) (col : Option Bool) (dd : Option Addr) (k0 k1 k2 k3 k5 : Option Value) (oN : Obj),
    K.lookup C = some (excClassObj nm q C N bs bmE true sn sub ab col dd k0 k1 k2 k3 k5 "Exception.__new__") ∧ K.lookup N = some oN ∧ keysOk oN = true ∧
    PySem.W.nsIn K N "__init__" = some (some (.ref fI)) ∧ PySem.W.nsIn K N "__setattr__" = some none ∧ PySem.W.nsIn K N "__getattribute__" = some none ∧ PySem.W.nsIn K N "__getattr__" = some none ∧
    PySem.W.nsIn K N "kind" = some none ∧ PySem.W.nsIn K N "place" = some none
  fn : PySem.W.isFn K (.ref fI) = true
  kp : PySem.W.keepIn K (.ref C) = true
theorem ns_some_of {K : PySem.W.Frag} {h : Heap} {N : Addr} {m : Str → Option Value} {n : Str} {v : Value} (X : K.In h) (G : h.Ns N m) (e : PySem.W.nsIn K N n = some (some v)) : m n = some v := by
  obtain ⟨o, es, ep, ho, hd, _, hf⟩ := G
  unfold PySem.W.nsIn at e
  split at e
  · rename_i c d es' n' sl q
    have z := X _ _ q
    rw [ho] at z
    cases z
    cases hd
    split at e
    · rename_i en he
      cases e
      rw [← hf]
      unfold nsFind findBy
      rw [← Array.find?_toList, he]
      rfl
    · split at e <;> cases e
  · cases e
structure XAt (h : Heap) (C fI : Addr) (N : Addr) (mN : Str → Option Value) : Prop where
  obj : ∃ (nm q : Str) (bs : List Value) (sn : List Str) (sub : List Value) (ab : Bool) (col : Option Bool) (dd : Option Addr) (k0 k1 k2 k3 k5 : Option Value),
    h.get? C = some (excClassObj nm q C N bs bmE true sn sub ab col dd k0 k1 k2 k3 k5 "Exception.__new__")
  ns : h.Ns N mN
  ini : mN "__init__" = some (.ref fI)
  sa : mN "__setattr__" = none
  ga : mN "__getattribute__" = none
  gr : mN "__getattr__" = none
  kd : mN "kind" = none
  pl : mN "place" = none
theorem XCls.at_ {K : PySem.W.Frag} {C fI : Addr} {h : Heap} (x : XCls K C fI) (KX : K.In h) : ∃ N mN, XAt h C fI N mN := by
  obtain ⟨nm, q, N, bs, sn, sub, ab, col, dd, k0, k1, k2, k3, k5, oN, l1, l2, ko, i1, i2, i3, i4, i5, i6⟩ := x.ex
  have hn : h.isNs N = true := by
    unfold Heap.isNs
    rw [KX _ _ l2]
    unfold keysOk at ko
    exact ko
  have G : h.Ns N (h.nsMap N) := .of_isNs hn
  exact ⟨N, h.nsMap N, ⟨nm, q, bs, sn, sub, ab, col, dd, k0, k1, k2, k3, k5, KX _ _ l1⟩, G, ns_some_of KX G i1, PySem.W.ns_none_of KX G i2, PySem.W.ns_none_of KX G i3, PySem.W.ns_none_of KX G i4, PySem.W.ns_none_of KX G i5, PySem.W.ns_none_of KX G i6⟩
theorem lk_kind : typeLookup (.type "Exception") "kind" = pure none := by rw [typeLookup_type, builtinLookup_eq_fast]; kernel_rfl
theorem lk_place : typeLookup (.type "Exception") "place" = pure none := by rw [typeLookup_type, builtinLookup_eq_fast]; kernel_rfl
/-- the attributes that are stored -/
def Fld (f : Str) : Prop := f = "kind" ∨ f = "place"
theorem Fld.lk {f : Str} (h : Fld f) : typeLookup (.type "Exception") f = pure none := by
  rcases h with rfl | rfl
  · exact lk_kind
  · exact lk_place
theorem Fld.no {f : Str} (h : Fld f) {hp : Heap} {C fI N : Addr} {mN : Str → Option Value} (x : XAt hp C fI N mN) : mN f = none := by
  rcases h with rfl | rfl
  · exact x.kd
  · exact x.pl
section
variable {X : Cx} {pins : List (Addr × Obj)} {σ : St} {H : Hp} {s : Shared} {e C fI dx : Addr} {f : Str} {v : V} {u : Value} {E : Value → Shared → Prop} {A : Around}
theorem store_first {Q : Unit → Shared → Prop} (I : Inv X pins σ H s) (c : XCls X.K C fI) (hf : Fld f) (he : H e = some (XE e C none)) (rv : RelV v u)
    (h : ∀ dx s', H dx = none → dx ≠ e → Inv X pins σ (upd (upd H dx (XD dx [(f, v)])) e (XE e C (some dx))) s' → Q () s') : wpAny (model X.prog X.w) A (setAttr (.ref e) f u) Q E s := by
  obtain ⟨N, mN, x⟩ := c.at_ I.kIn
  obtain ⟨nm, q, bs, sn, sub, ab, col, dd, k0, k1, k2, k3, k5, hC⟩ := x.obj
  obtain ⟨o, vs, ho, hc, hd, hdat, h1⟩ := xe_of I.hok he
  have hnc : ∀ c, o.data ≠ .cls c := fun c z => by rw [hdat] at z; cases z
  obtain ⟨hh, gg, dr, tt, oo⟩ := s
  refine put_attr PySem.F.store_Exception hC x.ns x.sa ho hc fun A R tk t' hR => ?_
  refine put_call PySem.F.store_Exception hC ho hc fun A T E' hT => ?_
  refine put_entry hC x.ns (hf.no x) hf.lk ho hc hd hnc fun h' tk' e1 e2 e3 => hT _ (hR _ ?_)
  have hfr : H hh.objs.size = none := I.hok.fresh (Nat.le_refl _)
  have nes : hh.objs.size ≠ e := fun z => by rw [z, he] at hfr; cases hfr
  refine h hh.objs.size _ hfr nes ?_
  have nE : ∀ b w, H b = some w → (∀ φ, w ≠ .ext φ) → b ≠ e := fun b w q nw => ne_of q he (nw _)
  have nS : ∀ b w, H b = some w → b ≠ hh.objs.size := fun b w q => ne_of_none q hfr
  have at_ : ∀ b w, H b = some w → (∀ φ, w ≠ .ext φ) → upd (upd H hh.objs.size (XD hh.objs.size [(f, v)])) e (XE e C (some hh.objs.size)) b = some w := fun b w q nw => by
    rw [upd_ne (nE b w q nw), upd_ne (nS b w q)]; exact q
  have un : Un X.fs [] H (upd (upd H hh.objs.size (XD hh.objs.size [(f, v)])) e (XE e C (some hh.objs.size))) hh h' := by
    refine ⟨fun b w q n _ _ => e3 b w (fun z => by rw [z, he] at n; cases n) q, fun b w q n _ _ => ⟨w.slots, e3 b w (fun z => by rw [z, he] at n; cases n) q⟩, fun b w q n _ => ?_, fun b w q _ => ?_,
      fun b xs q => at_ b _ q (fun _ z => nomatch z), fun b w xs q => at_ b _ q (fun _ z => nomatch z), fun b ps q => ⟨#[], by rw [at_ b _ q (fun _ z => nomatch z)]; simp⟩⟩
    · rw [upd_ne (fun z => by rw [z, he] at n; cases n), upd_ne (Nat.ne_of_lt (Heap.lt_size q))]; exact n
    · by_cases z : b = e
      · exact ⟨_, by rw [z]; exact e1⟩
      · exact ⟨w, e3 b w z q⟩
  refine I.un (h' := h') un fun b w q => ?_
  by_cases z : b = e
  · subst z
    rw [upd_same] at q
    cases q
    exact xe_ok e1 hc rfl hdat h1
  · rw [upd_ne z] at q
    by_cases z2 : b = hh.objs.size
    · subst z2
      rw [upd_same] at q
      cases q
      refine xd_ok e2 (fun g => ?_) fun g hg => ?_
      · show RelO (List.lookup g [(f, v)]) (if g = f then some u else none)
        by_cases y : g = f
        · have hb : (g == f) = true := beq_iff_eq.mpr y
          simp only [List.lookup, hb, if_pos y]
          exact rv
        · have hb : (g == f) = false := beq_eq_false_iff_ne.mpr y
          simp only [List.lookup, hb, if_neg y]
          trivial
      · by_cases y : g = f
        · simp [y]
        · exact absurd (show (if g = f then some u else none) = none from if_neg y) hg
    · rw [upd_ne z2] at q
      refine (I.hok b w q).stay (fun b' v' hc' r => e3 b' v' ?_ r) (fun b' r => at_ b' _ r (fun _ z => nomatch z)) fun b' xs r => at_ b' _ r (fun _ z => nomatch z)
      rcases hc' with y | y
      · rw [y]; exact z
      · exact nE b' _ y (fun _ z => nomatch z)
theorem store_next {Q : Unit → Shared → Prop} {fs : List (Str × V)} (I : Inv X pins σ H s) (c : XCls X.K C fI) (hf : Fld f) (he : H e = some (XE e C (some dx))) (hd : H dx = some (XD dx fs)) (hne : dx ≠ e) (hl : fs.length ≤ 1000) (rv : RelV v u)
    (h : ∀ s', Inv X pins σ (upd H dx (XD dx (putF f v fs))) s' → Q () s') : wpAny (model X.prog X.w) A (setAttr (.ref e) f u) Q E s := by
  obtain ⟨N, mN, x⟩ := c.at_ I.kIn
  obtain ⟨nm, q, bs, sn, sub, ab, col, dd, k0, k1, k2, k3, k5, hC⟩ := x.obj
  obtain ⟨o, vs, ho, hc, hdo, hdat, h1⟩ := xe_of I.hok he
  obtain ⟨mA, n1, rl, wi⟩ := xd_of I.hok hd
  obtain ⟨hh, gg, dr, tt, oo⟩ := s
  refine put_attr PySem.F.store_Exception hC x.ns x.sa ho hc fun A R tk t' hR => ?_
  refine put_call PySem.F.store_Exception hC ho hc fun A T E' hT => ?_
  refine put_entry2 hC x.ns (hf.no x) hf.lk ho hc hdo hne n1 wi (by rw [List.length_map]; exact hl) fun h' tk' e1 e3 => hT _ (hR _ (h _ ?_))
  have hex : ∃ z, h'.get? dx = some z := let ⟨z, _, _, r, _⟩ := e1; ⟨z, r⟩
  refine I.write (h' := h') (x := dx) (e := dx) (by rw [hd]; exact True.intro) (.inl rfl) (fun b w hb r => e3 b w hb r) hex ?_
  refine xd_ok e1 (fun g => ?_) fun g hg => ?_
  · show RelO ((putF f v fs).lookup g) (if g = f then some u else mA g)
    rw [lookup_putF]
    by_cases y : g = f
    · rw [if_pos y, if_pos y]; exact rv
    · rw [if_neg y, if_neg y]; exact rl g
  · by_cases y : g = f
    · rw [y]; exact (keys_putF f v fs).1
    · refine (keys_putF f v fs).2 g (wi g fun z => hg ?_)
      show (if g = f then some u else mA g) = none
      rw [if_neg y]; exact z
end
end L2.XC

set_option Elab.async false
set_option linter.all false
set_option maxRecDepth 100000
set_option maxHeartbeats 2000000
namespace L2.XC
open PySem PySem.Spec PyProof.Rows
section
variable {M : Model} {A : Around} {E : Value → Shared → Prop} {env : Env}
variable {nm q : Str} {C N : Addr} {bs : List Value} {sn : List Str} {sub : List Value} {ab : Bool} {col : Option Bool} {dd : Option Addr} {k0 k1 k2 k3 k5 : Option Value} {ni : String}
theorem raise_of {s : Shared} {x : Sem Value} {Q : Flow → Shared → Prop} (hh : A.handled = none)
    (h : wpAny M A x (fun v s1 => ∃ (e : Addr) (nm q : Str) (N : Addr) (bs : List Value) (sn : List Str) (sub : List Value) (ab : Bool) (col : Option Bool) (dd : Option Addr) (k0 k1 k2 k3 k5 : Option Value) (o : Obj) (vs : Array Value),
      v = .ref e ∧ s1.heap.get? C = some (excClassObj nm q C N bs bmE true sn sub ab col dd k0 k1 k2 k3 k5 "Exception.__new__") ∧
      s1.heap.get? e = some o ∧ o.cls = .ref C ∧ o.data = .fields vs ∧ vs[1]? = some .none ∧ E (.ref e) s1) E s) :
    wpAny M A (raiseStmt env (some x) none) Q E s := by
  have hcB : ∀ C : Addr, (Value.ref C :: bmE).contains (.type "BaseException") = true := fun C => by rw [List.contains_cons, show bmE.contains (.type "BaseException") = true from by decide +kernel, Bool.or_true]
  unfold raiseStmt
  refine wpAny_bind (wpAny_mono h (fun v s1 h1 => ?_) fun _ _ z => z)
  obtain ⟨e, nm, q, N, bs, sn, sub, ab, col, dd, k0, k1, k2, k3, k5, o, vs, rfl, hC, he, hc, hd, hv, hE⟩ := h1
  obtain ⟨hp, g, d, tk, os⟩ := s1
  repeat (first
    | (with_reducible refine wpAny_loadPart_at he ?_; rw [hc])
    | (with_reducible refine wpAny_loadPart_at he ?_)
    | with_reducible refine wpAny_loadPart_at hC ?_
    | (with_reducible refine wpAny_isSubtype_exc hC ?_; rw [hcB])
    | with_reducible refine wpAny_field he hd hv ?_
    | wp_step)
  exact wpAny_raiseNew_none hh hE
end

/-! ### stores into an exception; its attributes read -/
section
variable {X : Cx} {C fI : Addr} {o value e : Expr} {f : Str} {pos pos' : Pos} {ta tv : TE}
def sX1 (C : Addr) (ta tv : TE) (f : Str) : TS := fun D σ H => tv σ H fun y H1 => ta σ H1 fun x H2 => ∃ e, x = .ref e ∧ H2 e = some (XE e C none) ∧ ∀ dx, H2 dx = none → dx ≠ e → D.nx σ (upd (upd H2 dx (XD dx [(f, y)])) e (XE e C (some dx)))
def sX2 (C : Addr) (ta tv : TE) (f : Str) : TS := fun D σ H => tv σ H fun y H1 => ta σ H1 fun x H2 => ∃ e dx fs, x = .ref e ∧ H2 e = some (XE e C (some dx)) ∧ H2 dx = some (XD dx fs) ∧ dx ≠ e ∧ fs.length ≤ 1000 ∧ D.nx σ (upd H2 dx (XD dx (putF f y fs)))
theorem ps_x1 (c : XCls X.K C fI) (hf : Fld f) (ha : PE X o ta) (hv : PE X value tv) (hs : swapsWith value (some (.Attribute o f pos')) pos.line X.env = pure false) : PS X (.Assign [.Attribute o f pos'] value pos) (sX1 C ta tv f) := by
  intro pins s σ H D I h
  refine plainObj_wpAny_Assign_Attribute (thn (hv pins s σ H _ I h) fun u s1 ⟨y, H1, I1, ry, q⟩ => thn (ha pins s1 σ H1 _ I1 q) fun ov s2 ⟨x, H2, I2, rx, a, ex, ea, q2⟩ => ?_) hs
  subst ex
  obtain rfl : ov = Value.ref a := rx
  exact store_first I2 c hf ea ry fun dx s3 n ne I3 => ⟨σ, _, I3, q2 dx n ne⟩
theorem ps_x2 (c : XCls X.K C fI) (hf : Fld f) (ha : PE X o ta) (hv : PE X value tv) (hs : swapsWith value (some (.Attribute o f pos')) pos.line X.env = pure false) : PS X (.Assign [.Attribute o f pos'] value pos) (sX2 C ta tv f) := by
  intro pins s σ H D I h
  refine plainObj_wpAny_Assign_Attribute (thn (hv pins s σ H _ I h) fun u s1 ⟨y, H1, I1, ry, q⟩ => thn (ha pins s1 σ H1 _ I1 q) fun ov s2 ⟨x, H2, I2, rx, a, dx, fs, ex, ea, ed, ne, l, q2⟩ => ?_) hs
  subst ex
  obtain rfl : ov = Value.ref a := rx
  exact store_next I2 c hf ea ed ne l ry fun s3 I3 => ⟨σ, _, I3, q2⟩
end
/-! ### its __init__ -/
/-- an error's kind and place -/
def kp (k p : V) : List (Str × V) := [("kind", k), ("place", p)]
def spXI (C : Addr) : Sp := fun vs H Q _ => ∃ (e : Addr) (k p : V), vs = [.ref e, k, p] ∧ H e = some (XE e C none) ∧ ∀ dx H', dx ≠ e → H' e = some (XE e C (some dx)) → H' dx = some (XD dx (kp k p)) → Q .non H'
theorem tracked_some {P : Program} {w : World} {H : Hp} {h : Heap} {a : Addr} {o : HO} (x : ObjOk P w H h a o) : ∃ ob, h.get? a = some ob := by
  cases o with
  | lst xs => obtain ⟨_, _, _, _, e⟩ := x; exact ⟨_, e⟩
  | tup xs => obtain ⟨_, _, _, _, e, _⟩ := x; exact ⟨_, e⟩
  | dK kvs => obtain ⟨_, _, _, _, o, _, _, e, _⟩ := x; exact ⟨_, e⟩
  | dT kvs => obtain ⟨_, _, _, _, o, _, _, e, _⟩ := x; exact ⟨_, e⟩
  | set S n => obtain ⟨o, _, _, _, e, _⟩ := x; exact ⟨_, e⟩
  | ins C dx fs => obtain ⟨_, _, _, e, _⟩ := x; exact ⟨_, e⟩
  | own y => obtain ⟨_, e⟩ := x; exact ⟨_, e⟩
  | xd fs => obtain ⟨_, ⟨_, _, _, e, _⟩, _⟩ := x; exact ⟨_, e⟩
  | rng lo hi => obtain ⟨_, _, _, e⟩ := x; exact ⟨_, e⟩
  | frz ob u => obtain ⟨e, _⟩ := x; exact ⟨_, e⟩
  | tbl ps => exact ⟨_, x⟩
  | met f y => exact ⟨_, x⟩
  | ext φ => obtain ⟨_, e, _⟩ := x; exact e
/-! ### raise Fault(k, p) -/
/-- the error that is wanted at a raise -/
def Err (E : XK) (C : Addr) (k p : V) : Prop := ∀ H' dx, H' dx = some (XD dx (kp k p)) → E (.ref C) (some dx) H'
def sRaise (C : Addr) (E : XK) (t : TA) : TS := fun _ σ H => t σ H fun vs _ => ∃ k p, vs = [k, p] ∧ Err E C k p
section
variable {X : Cx} {C fI : Addr} {fd : FuncData} {x : Str} {np cpos pos : Pos} {a b : Expr} {E : XK} {t : TA} {k : Nat}
theorem ps_raise (c : XCls X.K C fI) (F : FnOk X.prog X.w X.K X.mg X.base CX0 k fI fd ["self", "kind", "place"] (spXI C)) (hbi : Binds X.K fd ["self", "kind", "place"] []) (hr : Room (k + 1) X.A) (hfl : Flies X E) (hxx : X.ex = []) (hg : Gl X x) (hm : X.mg x = some (.ref C))
    (ha : PA X [a, b] t) (hdb : (x == ("__debug__" : Str)) = false := by decide) (hst : starEach [a, b] X.env = (false, eval a X.env) :: starEach [b] X.env := by rfl) (hpl : (backTo cpos (starEach [b] X.env)).any (·.1) = false := by rfl) :
    PS X (.Raise (some (.Call (.Name x np) [a, b] [] cpos)) none pos) (sRaise C E t) := by
  intro pins s σ H D I h
  rw [arm_exec_Raise]
  refine wpAny_bind (wpAny_standAt (raise_of (C := C) hr.hd (wpAny_bind (m := eval (.Call (.Name x np) [a, b] [] cpos) X.env) ?_)))
  refine wpAny_Call_Name_kw (ld_glob I hg hm ?_ hdb)
  refine PySem.W.callWith_K (h₀ := X.base) I.ok.mod.kin c.kp (thn (ha cpos pins s σ H _ I h) fun us s1 ⟨vs, H1, I1, r, kv, pv, ev, q⟩ => ⟨I1.kIn, ?_⟩) hst hpl
  subst ev
  cases r with
  | @cons _ u1 _ r1 rv1 rr1 =>
  cases rr1 with
  | @cons _ u2 _ r2 rv2 rr2 =>
  cases rr2
  obtain ⟨N, mN, xa⟩ := c.at_ I1.kIn
  obtain ⟨nm, q', bs, sn, sub, ab, col, dd, k0, k1, k2, k3, k5, hC⟩ := xa.obj
  have fn := c.fn
  unfold PySem.W.isFn at fn
  have fn2 := beq_iff_eq.mp fn
  unfold PySem.W.typeIn at fn2
  obtain ⟨oI, hoI, hcI⟩ := Option.map_eq_some_iff.mp fn2
  obtain ⟨hh, gg, dr, tt, oo⟩ := s1
  refine wpAny_call_exc_init PySem.F.excBase_Exception hC xa.ns xa.ini (I1.kIn _ _ hoI) hcI (fun h' e md => ?_) (by show 2 ≤ sizeLine; decide)
  obtain ⟨tu, e1, e2, e3⟩ := md.there
  have he : H1 e = none := by
    cases z : H1 e with
    | none => rfl
    | some w =>
      obtain ⟨oz, hz⟩ := tracked_some (I1.hok e w z)
      rw [md.new] at hz
      cases hz
  have y : Young X pins e := Inv_young I1 hxx md.new
  have I2 : Inv X pins σ (upd H1 e (XE e C none)) ⟨h', gg, dr, tt, oo⟩ :=
    Inv_track (I1.kept (h' := h') (t' := tt) md.keeps) y he (xe_ok e1 rfl rfl rfl rfl)
  have hsp : spXI C [.ref e, kv, pv] (upd H1 e (XE e C none)) (fun v H' => v = .non ∧ ∃ dx, dx ≠ e ∧ H' e = some (XE e C (some dx)) ∧ H' dx = some (XD dx (kp kv pv))) E0 :=
    ⟨e, kv, pv, rfl, upd_same, fun dx H' z1 z2 z3 => ⟨rfl, dx, z1, z2, z3⟩⟩
  refine wpAny_call (codeAny_mono (F.run _ X.stack _ _ ⟨[.ref e, u1, u2], []⟩ [.ref e, u1, u2] [.ref e, kv, pv] _ _ (hr.make C [u1, u2] []) (I2.env0.make C [u1, u2] []) ?_ (.cons rfl (.cons rv1 (.cons rv2 .nil))) hsp) fun r s' hq => ?_)
  · exact hbi _ [.ref e, u1, u2] I2.kIn rfl
  · cases r with
    | error x => exact hq.elim
    | ok fl =>
      cases fl with
      | next => exact False.elim hq
      | brk => exact False.elim hq
      | cont => exact False.elim hq
      | ret u =>
        obtain ⟨v, H', I3, rv, ev, dx, z1, z2, z3⟩ := I2.after hq
        subst ev
        refine ⟨rv, wpAny_bind (wpAny_standAt (wpAny_pure ?_))⟩
        obtain ⟨N3, mN3, xa3⟩ := c.at_ I3.kIn
        obtain ⟨nm3, q3, bs3, sn3, sub3, ab3, col3, dd3, j0, j1, j2, j3, j5, hC3⟩ := xa3.obj
        obtain ⟨o, vs, ho, hc, hd, hdat, h1⟩ := xe_of I3.hok z2
        refine ⟨e, nm3, q3, N3, bs3, sn3, sub3, ab3, col3, dd3, j0, j1, j2, j3, j5, o, vs, rfl, hC3, ho, hc, hdat, h1, ?_⟩
        exact hfl pins σ (untr H' e) s' e C dx (Inv_untr I3 z2) (.inl ⟨o, vs, ho, hc, hd, hdat, h1⟩) untr_same y (q _ dx (by rw [untr_ne z1]; exact z3))
end
end L2.XC

set_option Elab.async false
set_option linter.all false
set_option maxRecDepth 100000
set_option maxHeartbeats 2000000
namespace L2.XC
open PySem PySem.Spec PyProof.Rows
/-! ### try .. except -/
/-- within an except suite -/
abbrev Xm (X : Cx) (v : Value) (xe : Value → Shared → Prop) : Cx := { X with A := X.A.mark (some v), calm := false, xe := xe }
section
variable {X : Cx} {pins : List (Addr × Obj)} {σ : St} {H : Hp} {s : Shared} {v : Value} {xe : Value → Shared → Prop}
theorem ok_in (ok : X.Ok) : (Xm X v xe).Ok :=
  ⟨ok.mod, ok.kind, ok.glob, ok.blt, ok.above, ok.inj, ok.has, ok.cab, fun z => Bool.noConfusion z, ok.frames, ok.stk, ok.exf, ok.bs, ok.bsz, ok.noex, ok.exfs, ok.funs, ok.frf⟩
theorem inv_in (I : Inv X pins σ H s) : Inv (Xm X v xe) pins σ H s := ⟨ok_in I.ok, I.os, I.bare, I.base, I.loc, I.cell, I.free, I.freeC, I.pin, I.hok, I.len⟩
theorem inv_out (ok : X.Ok) (I : Inv (Xm X v xe) pins σ H s) : Inv X pins σ H s := ⟨ok, I.os, I.bare, I.base, I.loc, I.cell, I.free, I.freeC, I.pin, I.hok, I.len⟩
/-- no name is known -/
def noneOf (X : Cx) : St := List.replicate X.N.length none
theorem inv_forget (I : Inv X pins σ H s) : Inv X pins (noneOf X) H s := I.weak (by unfold noneOf; rw [List.length_replicate, I.len]) fun i v e => by
  unfold noneOf at e
  rw [List.getElem?_replicate] at e
  split at e <;> cases e
theorem inv_locals {h' : Heap} {m' : Str → Option Value} {t' : Nat} (I : Inv X pins σ H s) (hn : h'.Ns X.env.locals m') (hs : Heap.SameBut X.env.locals s.heap h') : Inv X pins (noneOf X) H { s with heap := h', toks := t' } := by
  have nl : ∀ b o, X.s_0.heap.get? b = some o → b ≠ X.env.locals := fun b o q => Nat.ne_of_lt (Nat.lt_of_lt_of_le (Heap.lt_size q) I.ok.above)
  refine ⟨I.ok, I.os, I.bare, ⟨fun b o e n hb hx => ?_, fun b o e n hb hx => ?_, I.base.free, fun b o e hx => ?_, I.base.tups, I.base.frzs, I.base.tbls⟩, ⟨m', hn, fun j y v' e1 e2 e3 => ?_⟩, fun y c e => ?_, I.free, I.freeC, fun p hp => ?_, fun b o e => ?_, by unfold noneOf; rw [List.length_replicate]⟩
  · exact (hs.2 b (nl b o e)).trans (I.base.keep b o e n hb hx)
  · obtain ⟨sl, q⟩ := I.base.slot b o e n hb hx
    exact ⟨sl, (hs.2 b (nl b o e)).trans q⟩
  · obtain ⟨o', q⟩ := I.base.there b o e hx
    exact ⟨o', (hs.2 b (nl b o e)).trans q⟩
  · unfold noneOf at e2
    rw [List.getElem?_replicate] at e2
    split at e2 <;> cases e2
  · obtain ⟨w', z⟩ := I.cell y c e
    exact ⟨w', z.sameBut hs (I.cne y c e)⟩
  · obtain ⟨e, n, ne, nf, d⟩ := I.pin p hp
    exact ⟨(hs.2 p.1 ne).trans e, n, ne, nf, d⟩
  · refine (I.hok b o e).stay (fun c w' hc q => (hs.2 c ?_).trans q) (fun _ q => q) fun _ _ q => q
    rintro rfl
    rcases hc with z | hc
    · rw [← z, I.free] at e; cases e
    · rw [I.free] at hc; cases hc
end
/-- within a try's body: the pins are borne by every state -/
abbrev Xt (X : Cx) (pn : List (Addr × Obj)) (xe : Value → Shared → Prop) : Cx := { X with pn := pn, xe := xe }
section
variable {X : Cx} {pins pins' : List (Addr × Obj)} {σ : St} {H : Hp} {s : Shared} {xe : Value → Shared → Prop}
theorem ok_t (ok : X.Ok) {pn : List (Addr × Obj)} : (Xt X pn xe).Ok :=
  ⟨ok.mod, ok.kind, ok.glob, ok.blt, ok.above, ok.inj, ok.has, ok.cab, ok.hd, ok.frames, ok.stk, ok.exf, ok.bs, ok.bsz, ok.noex, ok.exfs, ok.funs, ok.frf⟩
theorem ok_u {pn : List (Addr × Obj)} (ok : (Xt X pn xe).Ok) : X.Ok :=
  ⟨ok.mod, ok.kind, ok.glob, ok.blt, ok.above, ok.inj, ok.has, ok.cab, ok.hd, ok.frames, ok.stk, ok.exf, ok.bs, ok.bsz, ok.noex, ok.exfs, ok.funs, ok.frf⟩
theorem inv_fore (I : Inv X pins σ H s) : Inv (Xt X (X.pn ++ pins) xe) [] σ H s :=
  ⟨ok_t I.ok, I.os, I.bare, I.base, I.loc, I.cell, I.free, I.freeC, fun p hp => I.pin p (by simpa using hp), I.hok, I.len⟩
theorem inv_back (I : Inv (Xt X (X.pn ++ pins) xe) pins' σ H s) : Inv X pins σ H s :=
  ⟨ok_u I.ok, I.os, I.bare, I.base, I.loc, I.cell, I.free, I.freeC, fun p hp => I.pin p (List.mem_append_left _ hp), I.hok, I.len⟩
theorem young_back {e : Addr} (y : Young (Xt X (X.pn ++ pins) xe) pins' e) : Young X pins e := ⟨y.new, y.loc, y.cel, fun p hp => y.pin p (List.mem_append_left _ hp), y.out⟩
theorem body_end {D : Ends} {f : Flow} (ok : X.Ok) (h : SP (Xt X (X.pn ++ pins) xe) pins' D f s) : SP X pins D f s := by
  cases f with
  | next => obtain ⟨σ', H', I, q⟩ := h; exact ⟨σ', H', inv_back I, q⟩
  | brk => obtain ⟨σ', H', I, q⟩ := h; exact ⟨σ', H', inv_back I, q⟩
  | cont => obtain ⟨σ', H', I, q⟩ := h; exact ⟨σ', H', inv_back I, q⟩
  | ret u => obtain ⟨v, σ', H', I, r, q⟩ := h; exact ⟨v, σ', H', inv_back I, r, q⟩
end
/-- what is wished of an exception within the try's body -/
def txe (X : Cx) (pins : List (Addr × Obj)) (D : Ends) (hs : List ExceptHandler) : Value → Shared → Prop := fun e s1 =>
  wpAny (model X.prog X.w) X.A (noteFrame e X.env) (fun _ s2 => wpAny (model X.prog X.w) X.A (setFlight e none) (fun _ s3 => wpAny (model X.prog X.w) X.A (handleBy e X.env hs) (SP X pins D) X.xe s3) X.xe s2) X.xe s1
/-- the ends of a suite that returns -/
def Rt (D : Ends) : Ends := { nx := fun _ _ => False, rt := D.rt }
theorem suite_end {X : Cx} {pins : List (Addr × Obj)} {v : Value} {xe : Value → Shared → Prop} {D : Ends} {f : Flow} {s : Shared} (ok : X.Ok) (h : SP (Xm X v xe) pins (Rt D) f s) : SP X pins D f s := by
  cases f with
  | next => obtain ⟨_, _, _, q⟩ := h; exact q.elim
  | brk => obtain ⟨_, _, _, q⟩ := h; exact q.elim
  | cont => obtain ⟨_, _, _, q⟩ := h; exact q.elim
  | ret u => obtain ⟨v, σ', H', I, r, q⟩ := h; exact ⟨v, σ', H', inv_out ok I, r, q⟩
section
variable {X : Cx} {C fI : Addr} {x n : Str} {np hpos pos : Pos} {body : List Stmt} {b0 : Stmt} {suite : List Stmt} {tb : XK → TS} {ts : TS} {i : Nat}
/-- the clause's test -/
theorem test_own {e dx : Addr} {pins : List (Addr × Obj)} {σ : St} {H : Hp} {s : Shared} {R : Result → Shared → Prop} (c : XCls X.K C fI) (hg : Gl X x) (hm : X.mg x = some (.ref C)) (hdb : (x == ("__debug__" : Str)) = false)
    (I : Inv X pins σ H s) (ld : Landed s.heap e C dx) (h : R (.ok .brk) s) : codeAny (model X.prog X.w) (X.A.mark (some (.ref e))) (.handlers (.ref e) [.ExceptHandler (some (.Name x np)) none [] hpos] X.env) R s := by
  refine codeAny_handlers_test (ld_glob (X := Xm X (.ref e) fun _ _ => False) (inv_in I) hg hm ?_ hdb)
  obtain ⟨N, mN, xa⟩ := c.at_ I.kIn
  obtain ⟨nm, q', bs, sn, sub, ab, col, dd, k0, k1, k2, k3, k5, hC⟩ := xa.obj
  obtain ⟨o, vs, T, oT, tss, he, hc, hdx, hd, h1, hTe, hT, hdT, h3⟩ := ld
  obtain ⟨hh, gg, dr, tt, oo⟩ := s
  exact wpAny_excMatches_sub_self hC he hc (by decide +kernel) h
end
end L2.XC

set_option Elab.async false
set_option linter.all false
set_option maxRecDepth 100000
set_option maxHeartbeats 2000000
namespace L2
open PySem PySem.Spec PyProof.Rows
theorem boot_reversed5 : bootBuiltins "reversed" = some (.type "reversed") := by decide +kernel
section
variable {X : Cx}
/-! ### one iterator just laid -/
theorem pi_one {tg : Expr} {pins : List (Addr × Obj)} {σ : St} {H : Hp} {s : Shared} {R : It → Hp → Prop} {J : It} {tn : Nat → Heap → Prop} {tk : Nat} (I : Inv X pins σ H s) (o : Obj)
    (T : Turn X.prog X.w X.K tg J [s.heap.objs.size] s.heap.objs.size tn) (st : tn 0 (s.heap.push o)) (q : R J H) : PIE X pins σ tg R (.ref s.heap.objs.size) { s with heap := s.heap.push o, toks := tk } := by
  refine ⟨s.heap.objs.size, [s.heap.objs.size], tn, J, H, rfl, I.kept fun b ob e => Heap.get?_push_of_some _ e, T, st, fun b hb => ?_, q⟩
  have e : b = s.heap.objs.size := by simpa using hb
  subst e
  exact I.fpOk (Nat.le_refl _) (I.hok.fresh (Nat.le_refl _))
end
/-! ### reversed(list) -/
/-- the list at a (n items at the start, which the loop leaves there), from its end -/
def Itv (K : PySem.W.Frag) (a : Addr) (n : Nat) : It :=
  ⟨fun i H => i < n ∧ ∃ (xs : List V) (x : V), SqL K H a xs ∧ xs[n - 1 - i]? = some x, fun i H x H' => H' = H ∧ ∀ xs, SqL K H a xs → xs[n - 1 - i]? = some x, fun i _ => n ≤ i⟩
theorem turn_rev {P : Program} {w : World} {K : PySem.W.Frag} {tg : Expr} (a it : Addr) (n : Nat) : Turn P w K tg (Itv K a n) [it] it (fun i h => i ≤ n ∧ h.IsRevIter it a ((n : Int) - 1 - (i : Nat))) where
  mem := by simp
  obj := fun i h st b hb => by
    have e : b = it := by simpa using hb
    subst e
    obtain ⟨_, o, e, c, d⟩ := st
    exact ⟨o, e, fun v z => by rw [d] at z; cases z⟩
  keep := fun i h h' st k => ⟨st.1, st.2.at fun o e => k it (by simp) o e⟩
  item := by
    intro X hP hw hK hc i pins s σ H E I hf st hg
    subst hP hw hK
    obtain ⟨hin, xs, x, hq, hx⟩ := hg
    obtain ⟨its, rv, p, hz⟩ := I.list hq
    obtain ⟨u, hu, ru⟩ := rv.get hx
    obtain ⟨f0, f1, f2, f3, f4, f5⟩ := hf it (by simp)
    obtain ⟨_, hit⟩ := st
    have e1 : (n : Int) - 1 - ((i : Nat) : Int) = ((n - 1 - i : Nat) : Int) := by omega
    rw [e1] at hit
    refine wpAny_pyNext_rev_item hit p.isList (x := u) (by simpa using hu) fun h' st' sb => ?_
    have e2 : ((n - 1 - i : Nat) : Int) - 1 = (n : Int) - 1 - ((i + 1 : Nat) : Int) := by omega
    rw [e2] at st'
    have I1 : Inv X pins σ H { s with heap := h' } := I.turned (t' := s.toks) (fun b o hb e => (sb.2 b hb).trans e) f0 f1 f3 f4 f5
    obtain ⟨o, e, c, d⟩ := id st'
    exact ⟨u, rfl, go_of (s := { s with heap := h' }) e c d (by decide) ⟨x, H, I1, ru, ⟨rfl, fun ys hy => by rw [I.list_inj hy hq]; exact hx⟩, ⟨hin, st'⟩, fun b hb => (hf b hb).1⟩⟩
  done := by
    intro X hP hw hK hc i pins s σ H E I hf st hg
    subst hP hw hK
    obtain ⟨f0, f1, f2, f3, f4, f5⟩ := hf it (by simp)
    obtain ⟨hin, hit⟩ := st
    have hge : n ≤ i := hg
    have e1 : (n : Int) - 1 - ((i : Nat) : Int) = -1 := by omega
    rw [e1] at hit
    exact wpAny_pyNext_rev_end (I.ok.hd hc) hit fun h' eb => ⟨rfl, I.turned (t' := s.toks) (fun b o hb e => eb b o hb e) f0 f1 f3 f4 f5⟩
  self := fun A i s Q E st h => wpAny_pyIter_revIter st.2 h
def iRev (K : PySem.W.Frag) (ta : TA) : TI := fun σ H R => ta σ H fun vs H1 => ∃ (a : Addr) (xs : List V), vs = [.ref a] ∧ SqL K H1 a xs ∧ R (Itv K a xs.length) H1
section
variable {X : Cx} {tg : Expr}
theorem pi_reversed {e : Expr} {ta : TA} {p pos : Pos} (hg : Gl X "reversed") (hm : X.mg "reversed" = none) (ha : PA X [e] ta) (hs : starEach [e] X.env = [(false, eval e X.env)] := by rfl) : PI X tg (.Call (.Name "reversed" p) [e] [] pos) (iRev X.K ta) := by
  intro pins s σ H R I h
  refine Call_ (ld_blt I hg hm boot_reversed5 (PyProof.Rows.callWith_type1 (thn (ha pos pins s σ H _ I h) fun us s1 ⟨vs, H1, I1, r1, q1⟩ => ?_) hs rfl))
  obtain ⟨a, xs, e, hq, q⟩ := q1
  subst e
  cases r1 with
  | cons r rr =>
    cases rr
    cases r
    obtain ⟨its, rv, p', hz⟩ := I1.list hq
    have hl := rv.length
    have e1 : ((its.toArray.size : Nat) : Int) - 1 = (xs.length : Int) - 1 - ((0 : Nat) : Int) := by simp only [List.size_toArray]; omega
    refine call_reversed_list p'.isList (wpAny_pyIter_revIter (l := a) (i := ((its.toArray.size : Nat) : Int) - 1) ⟨_, Heap.get?_push_size _ rfl, rfl, rfl⟩ ?_)
    refine pi_one (tk := s1.toks) I1 _ (turn_rev a _ xs.length) ⟨Nat.zero_le _, ?_⟩ q
    rw [← e1]
    exact ⟨_, Heap.get?_push_size _ rfl, rfl, rfl⟩
end

end L2

set_option Elab.async false
set_option linter.all false
set_option maxRecDepth 100000
set_option maxHeartbeats 2000000
namespace L2
open PySem PySem.Spec PyProof.Rows
/-- a walk over a list from its end -/
theorem for_rev {K : PySem.W.Frag} {a : Addr} {xs : List V} {g : TG} {tb : TS} {D : Ends} {σ : St} {H : Hp} (Pv : Nat → St → Hp → Prop) (h0 : Pv 0 σ H) (hl : ∀ i σ H, i ≤ xs.length → Pv i σ H → SqL K H a xs)
    (hs : ∀ i x σ H, i < xs.length → xs[xs.length - 1 - i]? = some x → Pv i σ H → g x σ H fun σ2 H2 => tb { D with nx := Pv (i + 1), ct := Pv (i + 1), bk := D.nx } σ2 H2) (hd : ∀ σ H, Pv xs.length σ H → D.nx σ H) :
    ∃ W : Nat → Nat → St → Hp → Prop, (∃ m, W 0 m σ H) ∧ ∀ i m σ H, W i m σ H →
      ((Itv K a xs.length).stop i H ∧ D.nx σ H) ∨ ((Itv K a xs.length).go i H ∧ ∃ N : St → Hp → Prop, (∀ σ' H', N σ' H' → ∃ m', m' < m ∧ W (i + 1) m' σ' H') ∧ ∀ x H', (Itv K a xs.length).yld i H x H' → g x σ H' fun σ2 H2 => tb { D with nx := N, ct := N, bk := D.nx } σ2 H2) := by
  refine ⟨fun i m σ H => m = xs.length - i ∧ i ≤ xs.length ∧ Pv i σ H, ⟨xs.length, by simp, Nat.zero_le _, h0⟩, ?_⟩
  rintro i m σ H ⟨rfl, hi, p⟩
  have q := hl i σ H hi p
  by_cases hlt : i < xs.length
  · refine .inr ⟨⟨hlt, xs, xs[xs.length - 1 - i], q, List.getElem?_eq_getElem _⟩, Pv (i + 1), fun σ' H' p' => ⟨xs.length - (i + 1), by omega, rfl, hlt, p'⟩, fun x H' y => ?_⟩
    obtain ⟨e, y⟩ := y
    subst e
    exact hs i x σ _ hlt (y xs q) p
  · have e : i = xs.length := by omega
    subst e
    exact .inl ⟨Nat.le_refl _, hd σ H p⟩
end L2

set_option Elab.async false
set_option linter.all false
set_option maxRecDepth 100000
set_option maxHeartbeats 2000000
namespace HT
open PySem PyProof.Rows
open PySem.AutoSeq1 (wpAny_loadPart')
open PySem.MeetsSeq PySem.MeetsSeq2 PySem.MeetsSeq3
/-- xs <= ys of lists of ints -/
def lexLe : List Int → List Int → Bool
  | [], _ => true
  | _ :: _, [] => false
  | x :: xs, y :: ys => if x = y then lexLe xs ys else decide (x ≤ y)
theorem rcLe_int (A : Around) (s : Shared) (a : Int) (t : Tok) (c : Int) (u : Tok) (prog : Program) (w : World) (E : Value → Shared → Prop) (Q : Value → Shared → Prop) (h : Q (.bool (decide (a ≤ c))) s) :
    wpAny (model prog w) A (richCompare .LtE (.int a t) (.int c u)) Q E s :=
  (PyProof.Rows.le_int h : wpAny (model prog w) A (compareOp .LtE (.int a t) (.int c u)) Q E s)
theorem ints_at : ∀ {vs : List Value} {ns : List Int} {i : Nat}, IntsAre vs ns → i < ns.length → ∃ t, vs[i]? = some (.int (ns[i]?.getD 0) t)
  | _, _, 0, .cons n t _, _ => ⟨t, by simp⟩
  | _, _, i + 1, .cons n t r, h => by
    obtain ⟨u, e⟩ := ints_at (i := i) r (by simpa using h)
    exact ⟨u, by simpa using e⟩
theorem le_loop (l b : Addr) (items items2 : Array Value) (n n2 : Nat) (ns ms : List Int) (hi : IntsAre items.toList ns) (hj : IntsAre items2.toList ms) (k : Nat) :
    ∀ i : Nat, i ≤ ns.length → i ≤ ms.length → ns.length - i = k → Meets (Builtin.«list.__eq__.loop» ⟨[.ref l, .ref b, rawInt i, rawInt 1], []⟩)
      (fun _ R s => s.heap.get? l = some { cls := .type "list", dict := none, data := .seq items n, slots := #[] } ∧ s.heap.get? b = some { cls := .type "list", dict := none, data := .seq items2 n2, slots := #[] } ∧
        R (.ok (.ret (.bool (lexLe (ns.drop i) (ms.drop i))))) s) := by
  have z1 : items.size = ns.length := by rw [← hi.length]; simp
  have z2 : items2.size = ms.length := by rw [← hj.length]; simp
  induction k with
  | zero =>
    intro i b1 b2 hk prog w A R s h
    obtain ⟨hp, g, d, tk, os⟩ := s
    obtain ⟨hl, hb, h⟩ := h
    have e0 : i = ns.length := by omega
    subst e0
    wp_walk using wpAny_loadPart' hl, wpAny_loadPart' hb
    have hi1 : items[((ns.length : Nat) : Int).toNat]? = none := by simp; omega
    rw [hi1]
    wp_walk using wpAny_loadPart' hl, wpAny_loadPart' hb
    show R (.ok (.ret (.bool (decide (items.size ≤ items2.size))))) _
    rw [decide_eq_true (by omega)]
    rw [List.drop_length] at h
    exact h
  | succ k ih =>
    intro i b1 b2 hk prog w A R s h
    obtain ⟨hp, g, d, tk, os⟩ := s
    obtain ⟨hl, hb, h⟩ := h
    have l1 : i < ns.length := by omega
    obtain ⟨t, e1⟩ := ints_at hi l1
    have f1 : items[((i : Nat) : Int).toNat]? = some (.int (ns[i]?.getD 0) t) := by
      rw [Int.toNat_natCast, ← Array.getElem?_toList]; exact e1
    have d1 : ns.drop i = ns[i]?.getD 0 :: ns.drop (i + 1) := by rw [List.drop_eq_getElem_cons l1, List.getElem?_eq_getElem l1]; rfl
    wp_walk using wpAny_loadPart' hl, wpAny_loadPart' hb
    rw [f1]
    by_cases l2 : i < ms.length
    · obtain ⟨u, e2⟩ := ints_at hj l2
      have f2 : items2[((i : Nat) : Int).toNat]? = some (.int (ms[i]?.getD 0) u) := by
        rw [Int.toNat_natCast, ← Array.getElem?_toList]; exact e2
      have d2 : ms.drop i = ms[i]?.getD 0 :: ms.drop (i + 1) := by rw [List.drop_eq_getElem_cons l2, List.getElem?_eq_getElem l2]; rfl
      rw [d1, d2] at h
      rw [f2]
      generalize ns[i]?.getD 0 = a at h f1
      generalize ms[i]?.getD 0 = c at h f2
      have hc : ((i : Int) + 1) = ((i + 1 : Nat) : Int) := by push_cast; rfl
      obtain ⟨e, he, hiff⟩ := eqAt_int A.in1 ⟨hp, g, d, tk, os⟩ a t c u
      refine wpAny_bind (he prog w _ _ ?_)
      cases e with
      | true =>
        have hac : a = c := hiff.mp rfl
        have h' : R (.ok (.ret (.bool (lexLe (ns.drop (i + 1)) (ms.drop (i + 1)))))) ⟨hp, g, d, tk, os⟩ := by
          simpa [lexLe, hac] using h
        wp_walk
        rw [hc]
        exact ⟨plainId_quiet plain_eq_loop _, codeAny_builtin entry_eq_loop (by
          rw [Around.under_plainId plain_eq_loop _]
          exact ih (i + 1) (by omega) (by omega) (by omega) prog w A R _ ⟨hl, hb, h'⟩)⟩
      | false =>
        have hac : ¬ a = c := fun q => absurd (hiff.mpr q) Bool.false_ne_true
        have h' : R (.ok (.ret (.bool (decide (a ≤ c))))) ⟨hp, g, d, tk, os⟩ := by
          simpa [lexLe, hac] using h
        have hri := rcLe_int A.in1 ⟨hp, g, d, tk, os⟩ a t c u prog w
        wp_walk using wpAny_loadPart' hl, wpAny_loadPart' hb
        rw [f1, f2]
        wp_walk using hri
        exact h'
    · have e2 : i = ms.length := by omega
      have hi2 : items2[((i : Nat) : Int).toNat]? = none := by simp; omega
      rw [hi2]
      wp_walk using wpAny_loadPart' hl, wpAny_loadPart' hb
      show R (.ok (.ret (.bool (decide (items.size ≤ items2.size))))) _
      rw [decide_eq_false (by omega)]
      rw [d1, e2, List.drop_length] at h
      exact h
theorem list_le_ints (l b : Addr) (items items2 : Array Value) (n n2 : Nat) (ns ms : List Int) (hi : IntsAre items.toList ns) (hj : IntsAre items2.toList ms) :
    Meets (Builtin.«list.__le__» ⟨[.ref l, .ref b], []⟩)
      (fun _ R s => s.heap.get? l = some { cls := .type "list", dict := none, data := .seq items n, slots := #[] } ∧ s.heap.get? b = some { cls := .type "list", dict := none, data := .seq items2 n2, slots := #[] } ∧
        R (.ok (.ret (.bool (lexLe ns ms)))) s) := by
  intro prog w A R s h
  obtain ⟨hp, g, d, tk, os⟩ := s
  obtain ⟨hl, hb, h⟩ := h
  have f3 := AutoSeq1.sub_list_list
  wp_walk using wpAny_loadPart' hl, wpAny_loadPart' hb
  exact ⟨plainId_quiet plain_eq_loop _, codeAny_builtin entry_eq_loop (by
    rw [Around.under_plainId plain_eq_loop _]
    exact le_loop l b items items2 n n2 ns ms hi hj _ 0 (Nat.zero_le _) (Nat.zero_le _) rfl prog w A R _ ⟨hl, hb, by simpa using h⟩)⟩
end HT
namespace L2
open PySem PySem.Spec PyProof.Rows
section
variable {X : Cx}
def rLeL : R2 := fun x y H Q => ∃ a b ns ms, x = .ref a ∧ y = .ref b ∧ H a = some (.lst (ns.map V.int)) ∧ H b = some (.lst (ms.map V.int)) ∧ Q (.bl (HT.lexLe ns ms)) H
theorem op_leL (hu : X.A.units < cLine) : OpR X (compareOp .LtE) rLeL := by
  intro pins s σ H x y v u Q I rx ry h
  obtain ⟨a, b, ns, ms, rfl, rfl, ha, hb, q⟩ := h
  cases rx
  cases ry
  obtain ⟨z, its, n, r, hl, e⟩ := I.lstM ha
  obtain ⟨z2, its2, n2, r2, hl2, e2⟩ := I.lstM hb
  have i1 : IntsAre its.toArray.toList ns := intsAre_of r
  have i2 : IntsAre its2.toArray.toList ms := intsAre_of r2
  show wpAny (model X.prog X.w) X.A (richCompare .LtE (.ref a) (.ref b)) _ _ s
  exact richCompare_meets_room (op := .LtE) ⟨_, e, rfl⟩ ⟨_, e2, rfl⟩ PySem.F.slot_list_le PySem.F.entry_list_le (PySem.F.args_list_le_2 _ _) (HT.list_le_ints a b its.toArray its2.toArray n n2 ns ms i1 i2)
    ⟨e, e2, (fun z => nomatch z), ⟨.bl (HT.lexLe ns ms), H, I, rfl, q⟩⟩ hu
end
end L2

set_option Elab.async false
set_option linter.all false
set_option maxRecDepth 100000
set_option maxHeartbeats 2000000
namespace L2
open PySem PySem.Spec PyProof.Rows
section
variable {X : Cx} {pins : List (Addr × Obj)} {σ : St} {H : Hp} {s : Shared}
end

section
variable {X : Cx}
end

end L2

set_option Elab.async false
set_option linter.all false
set_option maxRecDepth 100000
set_option maxHeartbeats 2000000
namespace L2
open PySem PySem.Spec PyProof.Rows
section
variable {X : Cx} {pins : List (Addr × Obj)} {σ : St} {H : Hp} {s : Shared}
end
section
variable {X : Cx}
end
section
variable {X : Cx} {pins : List (Addr × Obj)} {σ : List (Option V)} {H H' : Hp} {s : Shared} {h' : Heap}
end
end L2

set_option Elab.async false
set_option linter.all false
set_option maxRecDepth 100000
set_option maxHeartbeats 2000000
namespace L2.XC
open PySem PySem.Spec PyProof.Rows
open Builtin Builtin.ObjectAttr
/-! ### an own error class below another own one -/
abbrev bmU (U : Addr) : List Value := .ref U :: bmE
theorem bmU_yes {C U : Addr} {T : String} (hT : bmE.contains (.type T) = true) : (Value.ref C :: bmU U).contains (.type T) = true := by
  rw [List.contains_cons, List.contains_cons, hT, Bool.or_true, Bool.or_true]
theorem bmU_no {C U : Addr} {T : String} (hT : bmE.contains (.type T) = false) : (Value.ref C :: bmU U).contains (.type T) = false := by
  rw [List.contains_cons, List.contains_cons, hT]
  rfl
structure UCls (K : PySem.W.Frag) (U C fI : Addr) : Prop where
  ob : ∃ (nm q : Str) (N : Addr) (bs : List Value) (sn : List Str) (sub : List Value) (ab : Bool) (col : Option Bool) (dd : Option Addr) (k0 k1 k2 k3 k5 : Option Value),
    K.lookup C = some (excClassObj nm q C N bs (bmU U) true sn sub ab col dd k0 k1 k2 k3 k5 "Exception.__new__")
  ini : PySem.W.findIn K (.ref C) "__init__" = some (some (.ref fI))
  fn : PySem.W.isFn K (.ref fI) = true
  kp : PySem.W.keepIn K (.ref C) = true
  sa : PySem.W.findIn K (.ref C) "__setattr__" = some (some (.builtin "object.__setattr__"))
  ga : PySem.W.findIn K (.ref C) "__getattribute__" = some (some (.builtin "BaseException.__getattribute__"))
  gr : PySem.W.findIn K (.ref C) "__getattr__" = some none
  an : PySem.W.findIn K (.ref C) "answer" = some none
section
variable {prog : Program} {w : World} {A : Around} {E : Value → Shared → Prop} {h : Heap} {g : Array GenState} {d : Drawn} {t : Nat} {os : OsState}
variable {nm q : Str} {C N U x dx : Addr} {bs : List Value} {sn : List Str} {sub : List Value} {ab : Bool} {col : Option Bool} {dd : Option Addr}
variable {k0 k1 k2 k3 k5 : Option Value} {name : Str} {v : Value} {o : Obj} {mA : Str → Option Value}
theorem u_inst {M : Model} {T : String} (hC : h.get? C = some (excClassObj nm q C N bs (bmU U) true sn sub ab col dd k0 k1 k2 k3 k5 "Exception.__new__")) (hx : h.get? x = some o) (hc : o.cls = .ref C) (hT : bmE.contains (.type T) = true) :
    PySem.W.Looks M h (isInstance (.ref x) (.type T)) true := by
  intro A Q E s k z
  obtain ⟨hh, g, d, t, os⟩ := s
  have hx1 := k _ _ hx
  have hC1 := k _ _ hC
  have hb := bmU_yes (C := C) (U := U) hT
  unfold isInstance
  repeat (first
    | (with_reducible refine wpAny_loadPart_at hx1 ?_; rw [hc])
    | (with_reducible refine wpAny_isSubtype_exc hC1 ?_; rw [hb])
    | wp_step)
  exact z
theorem u_check_new {M : Model} {rest : List Value} {Q : Unit → Shared → Prop} (hC : h.get? C = some (excClassObj nm q C N bs (bmU U) true sn sub ab col dd k0 k1 k2 k3 k5 "Exception.__new__")) (z : Q () ⟨h, g, d, t, os⟩) :
    wpAny M A (checkBuiltinCall "Exception.__new__" ⟨.ref C :: rest, []⟩) Q E ⟨h, g, d, t, os⟩ := by
  have F := PySem.F.excBase_Exception
  have hb := bmU_yes (C := C) (U := U) (T := "Exception") (by decide +kernel)
  have hst := F.noStar
  simp only [F.newRow, F.newKind, F.newSplit, checkBuiltinCall]
  repeat (first
    | refine wpAny_loadPart_at hC ?_
    | (refine wpAny_isSubtype_exc hC ?_; rw [hb])
    | refine wpAny_staticBase_exc hC ?_
    | refine wpAny_madeBy_exc hC ?_
    | simp only [if_false, Bool.false_eq_true, bne_self_eq_false]
    | wp_step)
  exact z
theorem u_new {R : Result → Shared → Prop} {rest : List Value} (hC : h.get? C = some (excClassObj nm q C N bs (bmU U) true sn sub ab col dd k0 k1 k2 k3 k5 "Exception.__new__"))
    (z : R (.ok (.ret (.ref (h.objs.size + 1)))) ⟨(h.push { cls := .type "tuple", data := .seq rest.toArray }).push { cls := .ref C, data := .fields #[.ref h.objs.size, .none, .none, .none, .bool false, .none] }, g, d, t, os⟩) (hl : rest.length ≤ sizeLine) :
    codeAny (model prog w) A (.builtin "Exception.__new__" ⟨.ref C :: rest, []⟩) R ⟨h, g, d, t, os⟩ := by
  have F := PySem.F.excBase_Exception
  have he := F.ends
  have hB := bmU_yes (C := C) (U := U) (T := "Exception") (by decide +kernel)
  have hA := bmU_no (C := C) (U := U) (T := "AttributeError") (by decide +kernel)
  have hN := bmU_no (C := C) (U := U) (T := "NameError") (by decide +kernel)
  refine codeAny_builtinAt F.entry ?_
  unfold Builtin.«BaseException.__new__»
  refine PySem.wpAt_bind ?_
  show PySem.wpAt _ _ _ (stack >>= _) _ _ _
  refine PySem.wpAt_bind (PySem.wpAt_stack fun p below => PySem.wpAt_of_wpAny ?_)
  wp_walk
  refine PySem.wpAt_of_wpAny ?_
  rw [F.owner]
  repeat (first
    | with_reducible refine wpAny_madeHere_exc F.canon hC ?_
    | with_reducible refine wpAny_loadPart_at hC ?_
    | (with_reducible refine wpAny_isSubtype_exc hC ?_; first | rw [hB] | rw [hA] | rw [hN])
    | wp_step)
  show R _ _
  rw [Heap.size_push]
  exact z
theorem u_type_call {rest : List Value} {fI : Addr} {oI : Obj} {Q : Fin → Shared → Prop} (hC : h.get? C = some (excClassObj nm q C N bs (bmU U) true sn sub ab col dd k0 k1 k2 k3 k5 "Exception.__new__"))
    (hL : PySem.W.Looks (model prog w) h (typeLookup (.ref C) "__init__") (some (.ref fI))) (hI : h.get? fI = some oI) (hIc : oI.cls = .type "function")
    (z : ∀ h' e, Heap.MadeExcOf h h' e (.ref C) rest → wpAny (model prog w) A (call (.ref fI) (.ref e :: rest)) (fun r s' => r = .none ∧ Q (.done (.ret (.ref e))) s') E ⟨h', g, d, t, os⟩) (hl : rest.length ≤ sizeLine) :
    wpAny (model prog w) A (Builtin.«type.__call__» ⟨.ref C :: rest, []⟩) Q E ⟨h, g, d, t, os⟩ := by
  have F := PySem.F.excBase_Exception
  repeat (first
    | with_reducible refine wpAny_loadPart_at hC ?_
    | with_reducible refine wpAny_madeBy_exc hC ?_
    | wp_step)
  refine codeAny_call_builtin_code (Code.quiet_builtin _ F.quiet) (u_check_new hC ?_)
  refine u_new hC ?_ hl
  show wpAny _ _ _ _ _ _
  generalize hP : ((h.push { cls := .type "tuple", data := .seq rest.toArray }).push { cls := .ref C, data := .fields #[.ref h.objs.size, .none, .none, .none, .bool false, .none] }) = hh
  have up : ∀ b u, h.get? b = some u → hh.get? b = some u := fun b u e => by
    rw [← hP]
    exact Heap.get?_push_of_some _ (Heap.get?_push_of_some _ e)
  have got : hh.get? (h.objs.size + 1) = some { cls := .ref C, data := .fields #[.ref h.objs.size, .none, .none, .none, .bool false, .none] } := by
    rw [← hP]
    heap_get
  have got0 : hh.get? h.objs.size = some { cls := .type "tuple", data := .seq rest.toArray } := by
    rw [← hP]
    exact Heap.get?_push_of_some _ (Heap.get?_push_at rfl rfl)
  have hC1 := up _ _ hC
  have hself : (Value.ref C :: bmU U).contains (.ref C) = true := by simp
  unfold isInstance
  repeat (first
    | with_reducible refine wpAny_loadPart_at got ?_
    | (with_reducible refine wpAny_isSubtype_exc hC1 ?_; rw [hself])
    | wp_step)
  show wpAny _ _ (typeLookup (.ref C) _) _ _ _
  refine hL _ _ _ _ up ?_
  refine wpAny_holding (wpAny_bind ?_)
  unfold bindSpecial
  refine wpAny_bind (wpAny_typeOf (T := "function") ⟨_, up _ _ hI, hIc⟩ ?_)
  rw [if_pos (by decide)]
  refine wpAny_pure (wpAny_bind (wpAny_mono (z hh (h.objs.size + 1) ⟨up, Heap.get?_none_of_le (Nat.le_succ _), h.objs.size, got, Heap.get?_none_of_le (Nat.le_refl _), got0⟩) (fun r s' hr => ?_) fun _ _ y => y))
  obtain ⟨rfl, hQ⟩ := hr
  wp_walk
  exact hQ
theorem u_call {rest : List Value} {fI : Addr} {oI : Obj} {Q : Value → Shared → Prop} (hC : h.get? C = some (excClassObj nm q C N bs (bmU U) true sn sub ab col dd k0 k1 k2 k3 k5 "Exception.__new__"))
    (hL : PySem.W.Looks (model prog w) h (typeLookup (.ref C) "__init__") (some (.ref fI))) (hI : h.get? fI = some oI) (hIc : oI.cls = .type "function")
    (z : ∀ h' e, Heap.MadeExcOf h h' e (.ref C) rest → wpAny (model prog w) (A.under (.builtin "type.__call__" ⟨.ref C :: rest, []⟩)) (call (.ref fI) (.ref e :: rest)) (fun r s' => r = .none ∧ Q (.ref e) s') E ⟨h', g, d, t, os⟩) (hl : rest.length ≤ sizeLine) :
    wpAny (model prog w) A (call (.ref C) rest) Q E ⟨h, g, d, t, os⟩ := by
  have f1 := tc_lookup
  have f2 := tc_bind (.ref C)
  have ht : (⟨h, g, d, t, os⟩ : Shared).TypeIs (.ref C) "type" := ⟨_, hC, rfl⟩
  refine wpAny_call (codeAny_of_tree ?_)
  show wpAny _ _ (callAny (.ref C) _) _ _ _
  repeat (any_goals (first
    | assumption
    | with_reducible refine wpAny_loadPart_at hC ?_
    | wp_step))
  refine ⟨rfl, ?_⟩
  refine codeAny_call_builtin_at (Code.quiet_builtin _ (by decide +kernel)) entry_typeCall (wpAny_check_type_call_sub hC (u_type_call hC hL hI hIc (fun h' e hm => ?_) hl))
  exact z h' e hm
/-! its attributes -/
theorem u_put_entry {tk : Tok} {Q : Fin → Shared → Prop} (hC : h.get? C = some (excClassObj nm q C N bs (bmU U) true sn sub ab col dd k0 k1 k2 k3 k5 "Exception.__new__"))
    (hL : PySem.W.Looks (model prog w) h (typeLookup (.ref C) name) none) (hx : h.get? x = some o) (hc : o.cls = .ref C) (hdn : o.dict = none) (hnc : ∀ c, o.data ≠ .cls c)
    (z : ∀ h' tk', h'.get? x = some { o with dict := some h.objs.size } → h'.Ns1 h.objs.size (fun y => if y = name then some v else none) →
      (∀ b u, b ≠ x → h.get? b = some u → h'.get? b = some u) → Q (.done (.ret .none)) ⟨h', g, d, tk', os⟩) :
    wpAny (model prog w) A (Builtin.«object.__setattr__» ⟨[.ref x, .str name tk, v], []⟩) Q E ⟨h, g, d, t, os⟩ := by
  have hp := PySem.F.store_Exception.passes (.ref x)
  have hxs : x ≠ h.objs.size := Nat.ne_of_lt (Heap.lt_size hx)
  unfold Builtin.«object.__setattr__»
  repeat (first
    | rw [refuse_eq]
    | rw [refuseLoop_ref, refuseLoop_ref, hp]
    | (with_reducible refine wpAny_loadPart_at hx ?_; rw [hc])
    | with_reducible refine wpAny_mroOf_exc hC ?_
    | (with_reducible refine hL.at ?_)
    | wp_step)
  rw [hdn, if_neg (by simp [typeHasDict])]
  split
  · rename_i y
    cases y
  split
  · rename_i c y
    exact absurd y (hnc c)
  · have hx1 : (h.push { cls := .type "dict", data := .dict #[] }).get? x = some o := Heap.get?_push_of_some _ hx
    refine wpAny_bind (wpAny_alloc' (wpAny_bind (wpAny_update' hx1 (wpAny_pure ?_))))
    generalize hU : ((h.push { cls := .type "dict", data := .dict #[] }).update x fun o => { cls := o.cls, dict := some h.objs.size, data := o.data, slots := o.slots }) = hh
    have e1 : hh.get? h.objs.size = some { cls := .type "dict", data := .dict #[] } := by
      rw [← hU]
      exact (Heap.get?_update_ne _ _ _ _ hxs.symm).trans (Heap.get?_push_at rfl rfl)
    have e2 : hh.get? x = some { o with dict := some h.objs.size } := by
      rw [← hU]
      refine Heap.get?_update_self _ hx1 ?_
      have hfr := (Heap.get?_some_iff.mp hx).2
      obtain ⟨oc, od, odt, osl⟩ := o
      cases odt <;> first | rfl | exact hfr
    have e3 : ∀ b u, b ≠ x → h.get? b = some u → hh.get? b = some u := fun b u hb hbu => by
      rw [← hU]
      exact (Heap.get?_update_ne _ _ _ _ hb).trans (Heap.get?_push_of_some _ hbu)
    have e4 : hh.Ns h.objs.size (fun _ => none) := ⟨_, #[], _, e1, rfl, fun e he => absurd he (by simp), fun _ => rfl⟩
    show wpAny _ _ (storeInDict h.objs.size (.str name tk) name v) _ _ _
    unfold storeInDict newKeyGuard
    refine wpAny_bind (wpAny_pure (wpAny_bind (wpAny_nsSet1 (Heap.Ns1.of_empty e4) fun h' n1 sb => ?_)))
    obtain ⟨oD, esD, epD, hoD, hdD, hcD⟩ := n1.count (Within.cons name v Within.nil)
    refine wpAny_bind (wpAny_lookBehind hoD (by rw [hdD]; exact pastItsLine_dict (Nat.le_trans hcD (by rw [List.length_cons, List.length_nil, sizeLine_eq]; omega))) ?_)
    wp_walk
    exact z h' _ ((sb.2 x hxs).trans e2) n1 fun b u hb hbu => (sb.2 b (Nat.ne_of_lt (Heap.lt_size hbu))).trans (e3 b u hb hbu)
theorem u_put_call {R : Result → Shared → Prop} {tk : Tok} (hC : h.get? C = some (excClassObj nm q C N bs (bmU U) true sn sub ab col dd k0 k1 k2 k3 k5 "Exception.__new__"))
    (hx : h.get? x = some o) (hc : o.cls = .ref C)
    (z : ∀ (A : Around) (T : Fin → Shared → Prop) (E : Value → Shared → Prop), (∀ s', R (.ok (.ret .none)) s' → T (.done (.ret .none)) s') →
      wpAny (model prog w) A (Builtin.«object.__setattr__» ⟨[.ref x, .str name tk, v], []⟩) T E ⟨h, g, d, t, os⟩) :
    codeAny (model prog w) A (.call (.builtin "object.__setattr__") ⟨[.ref x, .str name tk, v], []⟩) R ⟨h, g, d, t, os⟩ := by
  have SF := PySem.F.store_Exception
  refine codeAny_call_builtin SF.slot.plain SF.entry (@PySem.W.check_slot (model prog w) _ _ ⟨h, g, d, t, os⟩ "object.__setattr__" "object" "__setattr__" (.ref x) [.str name tk, v] [] _ SF.kind SF.split (u_inst hC hx hc (by decide +kernel)) (SF.args (.ref x) (.str name tk) v) ?_)
  refine z _ _ _ ?_
  intro s' y
  exact y
theorem u_put_attr {Q : Unit → Shared → Prop} (hL : PySem.W.Looks (model prog w) h (typeLookup (.ref C) "__setattr__") (some (.builtin "object.__setattr__"))) (hx : h.get? x = some o) (hc : o.cls = .ref C)
    (z : ∀ (A : Around) (R : Result → Shared → Prop) (tk t' : Nat), (∀ s', Q () s' → R (.ok (.ret .none)) s') →
      codeAny (model prog w) A (.call (.builtin "object.__setattr__") ⟨[.ref x, .str name tk, v], []⟩) R ⟨h, g, d, t', os⟩) :
    wpAny (model prog w) A (setAttr (.ref x) name v) Q E ⟨h, g, d, t, os⟩ := by
  have f3 := PySem.F.store_Exception.slot.bind (.ref x)
  unfold setAttr callSpecial? specialOf
  repeat (any_goals (first
    | assumption
    | (with_reducible refine wpAny_loadPart_at hx ?_; rw [hc])
    | (with_reducible refine hL.at ?_)
    | wp_step))
  refine z _ _ _ _ fun s' y => ?_
  obtain ⟨hh, gg, dd', tt, oo⟩ := s'
  repeat (any_goals (first | (with_reducible assumption) | wp_step))
theorem u_got_entry {tk : Tok} {Q : Fin → Shared → Prop} (hC : h.get? C = some (excClassObj nm q C N bs (bmU U) true sn sub ab col dd k0 k1 k2 k3 k5 "Exception.__new__"))
    (hL : PySem.W.Looks (model prog w) h (typeLookup (.ref C) name) none)
    (hx : h.get? x = some o) (hc : o.cls = .ref C) (hnc : ∀ c, o.data ≠ .cls c) (hdn : o.dict = some dx) (hns : h.Ns1 dx mA) (hv : mA name = some v) (z : Q (.done (.ret v)) ⟨h, g, d, t, os⟩) :
    wpAny (model prog w) A (Builtin.«object.__getattribute__» ⟨[.ref x, .str name tk], []⟩) Q E ⟨h, g, d, t, os⟩ := by
  unfold Builtin.«object.__getattribute__»
  repeat (first
    | (with_reducible refine wpAny_loadPart_at hx ?_; rw [hc])
    | (with_reducible refine hL.at ?_)
    | wp_step)
  split
  · rename_i c y
    exact absurd y (hnc c)
  unfold instanceDict
  repeat (first
    | (with_reducible refine wpAny_loadPart_at hx ?_; rw [hc])
    | with_reducible refine wpAny_loadPart_at hC ?_
    | wp_step)
  rw [hdn]
  repeat (first | (with_reducible refine wpAny_nsGet hns.ns ?_; rw [hv]) | wp_step)
  exact z
theorem u_got_call {tk : Tok} {R : Result → Shared → Prop} (hC : h.get? C = some (excClassObj nm q C N bs (bmU U) true sn sub ab col dd k0 k1 k2 k3 k5 "Exception.__new__"))
    (hL : PySem.W.Looks (model prog w) h (typeLookup (.ref C) name) none)
    (hx : h.get? x = some o) (hc : o.cls = .ref C) (hnc : ∀ c, o.data ≠ .cls c) (hdn : o.dict = some dx) (hns : h.Ns1 dx mA) (hv : mA name = some v) (z : R (.ok (.ret v)) ⟨h, g, d, t, os⟩) :
    codeAny (model prog w) A (.call (.builtin "BaseException.__getattribute__") ⟨[.ref x, .str name tk], []⟩) R ⟨h, g, d, t, os⟩ :=
  codeAny_call_builtin PySem.F.attrBase_Exception.ga.plain PySem.F.entry_bexc_ga
    (@PySem.W.check_slot (model prog w) _ _ ⟨h, g, d, t, os⟩ "BaseException.__getattribute__" "BaseException" "__getattribute__" (.ref x) [.str name tk] [] _ (by decide +kernel) (by decide +kernel) (u_inst hC hx hc (by decide +kernel)) (PySem.F.args_bexc_ga (.ref x) (.str name tk))
      (u_got_entry hC hL hx hc hnc hdn hns hv z))
theorem u_got_by {tk : Tok} {fill expr : Bool} {Q : Value → Shared → Prop} (hC : h.get? C = some (excClassObj nm q C N bs (bmU U) true sn sub ab col dd k0 k1 k2 k3 k5 "Exception.__new__"))
    (hL : PySem.W.Looks (model prog w) h (typeLookup (.ref C) name) none) (hL1 : PySem.W.Looks (model prog w) h (typeLookup (.ref C) "__getattribute__") (some (.builtin "BaseException.__getattribute__"))) (hL2 : PySem.W.Looks (model prog w) h (typeLookup (.ref C) "__getattr__") none)
    (hx : h.get? x = some o) (hc : o.cls = .ref C) (hnc : ∀ c, o.data ≠ .cls c) (hdn : o.dict = some dx) (hns : h.Ns1 dx mA) (hv : mA name = some v) (hh : handedOut v = pure v) (z : Q v ⟨h, g, d, t, os⟩) :
    wpAny (model prog w) A (getAttrBy (.ref x) (.str name tk) fill expr) Q E ⟨h, g, d, t, os⟩ := by
  have f3 := PySem.F.attrBase_Exception.ga.bind (.ref x)
  have z0 : (expr && onTheHeap (Value.builtin "BaseException.__getattribute__")) = false := by cases expr <;> rfl
  have z2 : (Value.builtin "BaseException.__getattribute__" == Value.builtin "object.__getattribute__") = false := by decide +kernel
  have z1 : (onTheHeap (Value.ref C) && Value.builtin "BaseException.__getattribute__" == Value.builtin "object.__getattribute__") = false := by rw [z2]; rfl
  repeat (any_goals (first
    | assumption
    | (with_reducible refine wpAny_loadPart_at hx ?_; rw [hc])
    | (with_reducible refine hL1.at ?_)
    | (with_reducible refine hL2.at ?_)
    | wp_step))
  refine u_got_call hC hL hx hc hnc hdn hns hv ?_
  repeat (any_goals (first | assumption | wp_step))
  all_goals (first | (rw [hh]; exact wpAny_pure z) | exact z)
theorem u_got_attr {expr : Bool} {Q : Value → Shared → Prop} (hC : h.get? C = some (excClassObj nm q C N bs (bmU U) true sn sub ab col dd k0 k1 k2 k3 k5 "Exception.__new__"))
    (hL : PySem.W.Looks (model prog w) h (typeLookup (.ref C) name) none) (hL1 : PySem.W.Looks (model prog w) h (typeLookup (.ref C) "__getattribute__") (some (.builtin "BaseException.__getattribute__"))) (hL2 : PySem.W.Looks (model prog w) h (typeLookup (.ref C) "__getattr__") none)
    (hx : h.get? x = some o) (hc : o.cls = .ref C) (hnc : ∀ c, o.data ≠ .cls c) (hdn : o.dict = some dx) (hns : h.Ns1 dx mA) (hv : mA name = some v) (hh : handedOut v = pure v) (z : Q v ⟨h, g, d, t + 1, os⟩) :
    wpAny (model prog w) A (getAttr (.ref x) name expr) Q E ⟨h, g, d, t, os⟩ := by
  unfold getAttr
  refine wpAny_bind (wpAny_mkText ?_)
  exact u_got_by hC hL hL1 hL2 hx hc hnc hdn hns hv hh z
end
end L2.XC

set_option Elab.async false
set_option linter.all false
set_option maxRecDepth 100000
set_option maxHeartbeats 2000000
namespace L2.XC
open PySem PySem.Spec PyProof.Rows
section
variable {X : Cx} {pins : List (Addr × Obj)} {σ : St} {H : Hp} {s : Shared} {e C U fI dx : Addr} {v : V} {u : Value} {E : Value → Shared → Prop} {A : Around}
theorem u_store {Q : Unit → Shared → Prop} (I : Inv X pins σ H s) (c : UCls X.K U C fI) (he : H e = some (XE e C none)) (rv : RelV v u)
    (h : ∀ dx s', H dx = none → dx ≠ e → Inv X pins σ (upd (upd H dx (XD dx [("answer", v)])) e (XE e C (some dx))) s' → Q () s') : wpAny (model X.prog X.w) A (setAttr (.ref e) "answer" u) Q E s := by
  obtain ⟨nm, q, N, bs, sn, sub, ab, col, dd, k0, k1, k2, k3, k5, lC⟩ := c.ob
  have hC := I.kIn _ _ lC
  obtain ⟨o, vs, ho, hc, hd, hdat, h1⟩ := xe_of I.hok he
  have hnc : ∀ c, o.data ≠ .cls c := fun c z => by rw [hdat] at z; cases z
  have KX := I.kIn
  obtain ⟨hh, gg, dr, tt, oo⟩ := s
  refine u_put_attr (PySem.W.looks_findIn KX c.sa) ho hc fun A R tk t' hR => ?_
  refine u_put_call hC ho hc fun A T E' hT => ?_
  refine u_put_entry hC (PySem.W.looks_findIn KX c.an) ho hc hd hnc fun h' tk' e1 e2 e3 => hT _ (hR _ ?_)
  have hfr : H hh.objs.size = none := I.hok.fresh (Nat.le_refl _)
  have nes : hh.objs.size ≠ e := fun z => by rw [z, he] at hfr; cases hfr
  refine h hh.objs.size _ hfr nes ?_
  have nE : ∀ b w, H b = some w → (∀ φ, w ≠ .ext φ) → b ≠ e := fun b w q nw => ne_of q he (nw _)
  have nS : ∀ b w, H b = some w → b ≠ hh.objs.size := fun b w q => ne_of_none q hfr
  have at_ : ∀ b w, H b = some w → (∀ φ, w ≠ .ext φ) → upd (upd H hh.objs.size (XD hh.objs.size [("answer", v)])) e (XE e C (some hh.objs.size)) b = some w := fun b w q nw => by
    rw [upd_ne (nE b w q nw), upd_ne (nS b w q)]; exact q
  have un : Un X.fs [] H (upd (upd H hh.objs.size (XD hh.objs.size [("answer", v)])) e (XE e C (some hh.objs.size))) hh h' := by
    refine ⟨fun b w q n _ _ => e3 b w (fun z => by rw [z, he] at n; cases n) q, fun b w q n _ _ => ⟨w.slots, e3 b w (fun z => by rw [z, he] at n; cases n) q⟩, fun b w q n _ => ?_, fun b w q _ => ?_,
      fun b xs q => at_ b _ q (fun _ z => nomatch z), fun b w xs q => at_ b _ q (fun _ z => nomatch z), fun b ps q => ⟨#[], by rw [at_ b _ q (fun _ z => nomatch z)]; simp⟩⟩
    · rw [upd_ne (fun z => by rw [z, he] at n; cases n), upd_ne (Nat.ne_of_lt (Heap.lt_size q))]; exact n
    · by_cases z : b = e
      · exact ⟨_, by rw [z]; exact e1⟩
      · exact ⟨w, e3 b w z q⟩
  refine I.un (h' := h') un fun b w q => ?_
  by_cases z : b = e
  · subst z
    rw [upd_same] at q
    cases q
    exact xe_ok e1 hc rfl hdat h1
  · rw [upd_ne z] at q
    by_cases z2 : b = hh.objs.size
    · subst z2
      rw [upd_same] at q
      cases q
      refine xd_ok e2 (fun g => ?_) fun g hg => ?_
      · show RelO (List.lookup g [("answer", v)]) (if g = "answer" then some u else none)
        by_cases y : g = "answer"
        · have hb : (g == ("answer" : Str)) = true := beq_iff_eq.mpr y
          simp only [List.lookup, hb, if_pos y]
          exact rv
        · have hb : (g == ("answer" : Str)) = false := beq_eq_false_iff_ne.mpr y
          simp only [List.lookup, hb, if_neg y]
          trivial
      · by_cases y : g = "answer"
        · simp [y]
        · exact absurd (show (if g = "answer" then some u else none) = none from if_neg y) hg
    · rw [upd_ne z2] at q
      refine (I.hok b w q).stay (fun b' v' hc' r => e3 b' v' ?_ r) (fun b' r => at_ b' _ r (fun _ z => nomatch z)) fun b' xs r => at_ b' _ r (fun _ z => nomatch z)
      rcases hc' with y | y
      · rw [y]; exact z
      · exact nE b' _ y (fun _ z => nomatch z)
theorem u_load {Q : Value → Shared → Prop} {b : Bool} (I : Inv X pins σ H s) (c : UCls X.K U C fI) (he : H e = some (XL e C dx)) (hd : H dx = some (XD dx [("answer", v)]))
    (h : ∀ u s', Inv X pins σ H s' → RelV v u → Q u s') : wpAny (model X.prog X.w) A (getAttr (.ref e) "answer" b) Q E s := by
  obtain ⟨nm, q, N, bs, sn, sub, ab, col, dd, k0, k1, k2, k3, k5, lC⟩ := c.ob
  have hC := I.kIn _ _ lC
  obtain ⟨o, vs, ho, hc, hdo, hdat⟩ := xl_of I.hok he
  obtain ⟨mA, n1, rl, wi⟩ := xd_of I.hok hd
  have hnc : ∀ c, o.data ≠ .cls c := fun c z => by rw [hdat] at z; cases z
  obtain ⟨u, hu, ru⟩ := RelO.some_of (v := v) (o := mA "answer") (rl "answer")
  have KX := I.kIn
  obtain ⟨hh, gg, dr, tt, oo⟩ := s
  exact u_got_attr hC (PySem.W.looks_findIn KX c.an) (PySem.W.looks_findIn KX c.ga) (PySem.W.looks_findIn KX c.gr) ho hc hnc hdo n1 hu (PySem.W.handedOut_of (handed_of ru)) (h u _ (I.tok _) ru)
end
section
variable {X : Cx} {U : Addr} {o value e : Expr} {pos pos' : Pos} {ta tv : TE}
def sU1 (K : PySem.W.Frag) (U : Addr) (ta tv : TE) : TS := fun D σ H => tv σ H fun y H1 => ta σ H1 fun x H2 => ∃ e C fI, x = .ref e ∧ UCls K U C fI ∧ H2 e = some (XE e C none) ∧ ∀ dx, H2 dx = none → dx ≠ e → D.nx σ (upd (upd H2 dx (XD dx [("answer", y)])) e (XE e C (some dx)))
def tUf (K : PySem.W.Frag) (U : Addr) (ta : TE) : TE := fun σ H Q => ta σ H fun x H1 => ∃ e C fI dx v, x = .ref e ∧ UCls K U C fI ∧ H1 e = some (XL e C dx) ∧ H1 dx = some (XD dx [("answer", v)]) ∧ Q v H1
theorem ps_u1 (ha : PE X o ta) (hv : PE X value tv) (hs : swapsWith value (some (.Attribute o "answer" pos')) pos.line X.env = pure false) : PS X (.Assign [.Attribute o "answer" pos'] value pos) (sU1 X.K U ta tv) := by
  intro pins s σ H D I h
  refine plainObj_wpAny_Assign_Attribute (thn (hv pins s σ H _ I h) fun u s1 ⟨y, H1, I1, ry, q⟩ => thn (ha pins s1 σ H1 _ I1 q) fun ov s2 ⟨x, H2, I2, rx, a, C, fI, ex, c, ea, q2⟩ => ?_) hs
  subst ex
  obtain rfl : ov = Value.ref a := rx
  exact u_store I2 c ea ry fun dx s3 n ne I3 => ⟨σ, _, I3, q2 dx n ne⟩
theorem pe_uf {K : PySem.W.Frag} (hK : X.K = K) (he : PE X e ta) (hb : attributeBase e "answer" X.env (eval e X.env) = eval e X.env) : PE X (.Attribute e "answer" pos) (tUf K U ta) := by
  subst hK
  intro pins s σ H Q I h
  refine attr_of hb (thn (he pins s σ H _ I h) fun u s1 ⟨x, H1, I1, rx, a, C, fI, dx, v, ex, c, ea, ed, q⟩ => ?_)
  subst ex
  obtain rfl : u = Value.ref a := rx
  exact u_load I1 c ea ed fun u' s2 I2 ru => ⟨v, H1, I2, ru, q⟩
end
/-! ### a def of a class, called by the class's name -/
section
variable {X : Cx} {CX : CXT} {k : Nat} {f U : Addr} {fd : FuncData} {ps : List Str} {sp : Sp} {dvs : List V} {ds : List Value} {E : XK} {x m : Str} {p pos apos : Pos} {e : Expr} {es : List Expr} {t : TA}
structure ClsFn (K : PySem.W.Frag) (U : Addr) (m : Str) (f : Addr) : Prop where
  rd : PySem.W.readsIn K U (.type "type") = true
  fc : PySem.W.findCls K (.ref U) (.type "type") m = some (.val (.ref f))
  sg : PySem.W.specialIn K (.ref U) "__getattribute__" = some (some (.builtin "type.__getattribute__"))
  kp : PySem.W.keepIn K (.ref f) = true
theorem pe_clsm {pl : Sem Bool} (hg : Gl X x) (hm : X.mg x = some (.ref U)) (c : ClsFn X.K U m f) (F : FnOk X.prog X.w X.K X.mg X.base CX k f fd ps sp) (hr : Room k X.A) (hb : Binds X.K fd ps ds) (hd : Vals dvs ds) (hx : Passes CX X E) (ha : PA X (e :: es) t)
    (hdb : (x == ("__debug__" : Str)) = false := by decide) (hst : starEach (e :: es) X.env = (false, eval e X.env) :: starEach es X.env := by rfl) (hpl : (backTo pos (starEach es X.env)).any (·.1) = false := by rfl)
    (ht : eval (.Call (.Attribute (.Name x p) m apos) (e :: es) [] pos) X.env = (do
      let ov ← eval (.Name x p) X.env
      standAt apos.atName
      let (f, first) ← holding [ov] (getMethod ov m pl)
      callWith pos f first (backTo pos (starEach (e :: es) X.env)) (backToKw pos (keywordEach [] X.env))) := by rfl) :
    PE X (.Call (.Attribute (.Name x p) m apos) (e :: es) [] pos) (tCall sp dvs E t) := by
  intro pins s σ H Q I h
  refine PySem.W.methodCall_KW (pl := pl) (ld_glob I hg hm ?_ hdb) ht
  refine PySem.W.method_cls I.kIn c.sg (PySem.W.cls_value I.kIn c.rd c.fc rfl ?_)
  refine PySem.W.callWith_K (first := []) (h₀ := X.base) I.ok.mod.kin c.kp (thn (ha pos pins _ σ H _ (I.tok _) h) fun us s2 ⟨vs, H2, I2, r, q2⟩ => ⟨I2.kIn, ?_⟩) hst hpl
  exact run_fn (us := us) F hr hb hd hx I2 r q2
end
/-! ### raise -/
def ErrU (E : XK) (C : Addr) (ans : List V) : Prop := ∀ H' dx a, H' dx = some (XD dx [("answer", .ref a)]) → H' a = some (.lst ans) → E (.ref C) (some dx) H'
/-- the promise of such a class's __init__ -/
def spSI (C : Addr) (n : Nat) (ans : List V → List V) : Sp := fun vs H Q _ => ∃ e rest, vs = .ref e :: rest ∧ rest.length = n ∧ H e = some (XE e C none) ∧
  ∀ dx a H', dx ≠ e → H' e = some (XE e C (some dx)) → H' dx = some (XD dx [("answer", .ref a)]) → H' a = some (.lst (ans rest)) → Q .non H'
def sRaiseU (C : Addr) (E : XK) (n : Nat) (ans : List V → List V) (t : TA) : TS := fun _ σ H => t σ H fun vs _ => vs.length = n ∧ ErrU E C (ans vs)
def UFlew (X : Cx) (U C : Addr) (v : Value) (s1 : Shared) : Prop := ∃ (e : Addr) (nm q : Str) (N : Addr) (bs : List Value) (sn : List Str) (sub : List Value) (ab : Bool) (col : Option Bool) (dd : Option Addr) (k0 k1 k2 k3 k5 : Option Value) (o : Obj) (vs : Array Value),
  v = .ref e ∧ s1.heap.get? C = some (excClassObj nm q C N bs (bmU U) true sn sub ab col dd k0 k1 k2 k3 k5 "Exception.__new__") ∧ s1.heap.get? e = some o ∧ o.cls = .ref C ∧ o.data = .fields vs ∧ vs[1]? = some .none ∧ X.xe (.ref e) s1
section
variable {X : Cx} {U C fI : Addr} {fd : FuncData} {x : Str} {np cpos pos : Pos} {a : Expr} {E : XK} {t : TA} {k n : Nat} {ps : List Str} {ans : List V → List V}
theorem raise_ofU {s : Shared} {m : Sem Value} {Q : Flow → Shared → Prop} (hh : X.A.handled = none) (h : wpAny (model X.prog X.w) X.A m (UFlew X U C) X.xe s) :
    wpAny (model X.prog X.w) X.A (raiseStmt X.env (some m) none) Q X.xe s := by
  have hcB := bmU_yes (C := C) (U := U) (T := "BaseException") (by decide +kernel)
  unfold raiseStmt
  refine wpAny_bind (wpAny_mono h (fun v s1 h1 => ?_) fun _ _ z => z)
  obtain ⟨e, nm, q, N, bs, sn, sub, ab, col, dd, k0, k1, k2, k3, k5, o, vs, rfl, hC, he, hc, hd, hv, hE⟩ := h1
  obtain ⟨hp, g, d, tk, os⟩ := s1
  repeat (first
    | (with_reducible refine wpAny_loadPart_at he ?_; rw [hc])
    | (with_reducible refine wpAny_loadPart_at he ?_)
    | with_reducible refine wpAny_loadPart_at hC ?_
    | (with_reducible refine wpAny_isSubtype_exc hC ?_; rw [hcB])
    | with_reducible refine wpAny_field he hd hv ?_
    | wp_step)
  exact wpAny_raiseNew_none hh hE
theorem raise_runU {pins : List (Addr × Obj)} {σ : St} {H1 : Hp} {s1 : Shared} {us : List Value} {vs : List V} {Qv : Value → Shared → Prop} (c : UCls X.K U C fI) (F : FnOk X.prog X.w X.K X.mg X.base CX0 k fI fd ps (spSI C n ans)) (hbi : Binds X.K fd ps []) (hps : ps.length = n + 1)
    (hr : Room (k + 1) X.A) (hfl : Flies X E) (hxx : X.ex = []) (I1 : Inv X pins σ H1 s1) (r : Vals vs us) (hn : vs.length = n) (hsz : us.length ≤ sizeLine) (q : ErrU E C (ans vs)) (hQ : ∀ v s', UFlew X U C v s' → Qv v s') :
    wpAny (model X.prog X.w) X.A (call (.ref C) us) Qv X.xe s1 := by
  obtain ⟨nm, q', N, bs, sn, sub, ab, col, dd, k0, k1, k2, k3, k5, lC⟩ := c.ob
  have KX := I1.kIn
  have hC := KX _ _ lC
  have fn := c.fn
  unfold PySem.W.isFn at fn
  have fn2 := beq_iff_eq.mp fn
  unfold PySem.W.typeIn at fn2
  obtain ⟨oI, hoI, hcI⟩ := Option.map_eq_some_iff.mp fn2
  obtain ⟨hh, gg, dr, tt, oo⟩ := s1
  refine u_call hC (PySem.W.looks_findIn KX c.ini) (KX _ _ hoI) hcI (fun h' e md => ?_) hsz
  obtain ⟨tu, e1, e2, e3⟩ := md.there
  have he : H1 e = none := by
    cases z : H1 e with
    | none => rfl
    | some w =>
      obtain ⟨oz, hz⟩ := tracked_some (I1.hok e w z)
      rw [md.new] at hz
      cases hz
  have y : Young X pins e := Inv_young I1 hxx md.new
  have I2 : Inv X pins σ (upd H1 e (XE e C none)) ⟨h', gg, dr, tt, oo⟩ :=
    Inv_track (I1.kept (h' := h') (t' := tt) md.keeps) y he (xe_ok e1 rfl rfl rfl rfl)
  have hsp : spSI C n ans (.ref e :: vs) (upd H1 e (XE e C none)) (fun v H' => v = .non ∧ ∃ dx a, dx ≠ e ∧ H' e = some (XE e C (some dx)) ∧ H' dx = some (XD dx [("answer", .ref a)]) ∧ H' a = some (.lst (ans vs))) E0 :=
    ⟨e, vs, rfl, hn, upd_same, fun dx a H' z1 z2 z3 z4 => ⟨rfl, dx, a, z1, z2, z3, z4⟩⟩
  have hl : (Value.ref e :: us).length = ps.length := by rw [List.length_cons, ← r.length, hn, hps]
  refine wpAny_call (codeAny_mono (F.run _ X.stack _ _ ⟨.ref e :: us, []⟩ (.ref e :: us) (.ref e :: vs) _ _ (hr.make C us []) (I2.env0.make C us []) ?_ (.cons rfl r) hsp) fun r s' hq => ?_)
  · have := hbi ⟨h', gg, dr, tt, oo⟩ (.ref e :: us) I2.kIn (by rw [List.append_nil]; exact hl)
    rw [List.append_nil] at this
    exact this
  · cases r with
    | error x => exact hq.elim
    | ok fl =>
      cases fl with
      | next => exact False.elim hq
      | brk => exact False.elim hq
      | cont => exact False.elim hq
      | ret u =>
        obtain ⟨v, H', I3, rv, ev, dx, a, z1, z2, z3, z4⟩ := I2.after hq
        subst ev
        refine ⟨rv, hQ _ _ ?_⟩
        obtain ⟨o, vs, ho, hc, hd, hdat, h1⟩ := xe_of I3.hok z2
        refine ⟨e, nm, q', N, bs, sn, sub, ab, col, dd, k0, k1, k2, k3, k5, o, vs, rfl, I3.kIn _ _ lC, ho, hc, hdat, h1, ?_⟩
        exact hfl pins σ (untr H' e) s' e C dx (Inv_untr I3 z2) (.inl ⟨o, vs, ho, hc, hd, hdat, h1⟩) untr_same y (q _ dx a (by rw [untr_ne z1]; exact z3) (by rw [untr_ne (ne_of z4 z2 (by intro y; cases y))]; exact z4))
theorem ps_raiseU0 (c : UCls X.K U C fI) (F : FnOk X.prog X.w X.K X.mg X.base CX0 k fI fd ps (spSI C 0 ans)) (hbi : Binds X.K fd ps []) (hps : ps.length = 1) (hr : Room (k + 1) X.A) (hfl : Flies X E) (hxx : X.ex = []) (hg : Gl X x) (hm : X.mg x = some (.ref C))
    (hdb : (x == ("__debug__" : Str)) = false := by decide) :
    PS X (.Raise (some (.Call (.Name x np) [] [] cpos)) none pos) (sRaiseU C E 0 ans tNil) := by
  intro pins s σ H D I h
  rw [arm_exec_Raise]
  refine wpAny_bind (wpAny_standAt (raise_ofU (U := U) (C := C) hr.hd (wpAny_bind (m := eval (.Call (.Name x np) [] [] cpos) X.env) ?_)))
  refine wpAny_Call_Name_kw (ld_glob I hg hm ?_ hdb)
  have h : ([] : List V).length = 0 ∧ ErrU E C (ans []) := h
  refine PySem.W.callWith_K0 I.kIn c.kp ?_
  refine raise_runU (us := []) (vs := []) c F hbi hps hr hfl hxx I .nil rfl (by show 0 ≤ sizeLine; decide) h.2 fun v s' z => ?_
  exact wpAny_bind (wpAny_standAt (wpAny_pure z))
end
/-! ### try .. except E1: .. except E2 as n: .. -/
structure Sub2 (K : PySem.W.Frag) (CF U C : Addr) : Prop where
  no : PySem.W.exmOne K (.ref C) (.ref CF) = some false
  yes : PySem.W.exmOne K (.ref C) (.ref U) = some true
def w2 (X : Cx) (CF U : Addr) (i : Nat) (ts1 ts2 : TS) (D : Ends) : XK := fun c od H' => (c = .ref CF ∧ ts1 (Rt D) (noneOf X) H') ∨
  ∃ C dx, c = .ref C ∧ Sub2 X.K CF U C ∧ od = some dx ∧ ∀ e, H' e = none → ts2 (Rt D) ((noneOf X).set i (some (.ref e))) (upd H' e (XL e C dx))
def tTry2 (X : Cx) (CF U : Addr) (i : Nat) (tb : XK → TS) (ts1 ts2 : TS) : TS := fun D σ H => tb (w2 X CF U i ts1 ts2 D) D σ H
section
variable {X : Cx} {CF U fI : Addr} {x1 x2 n : Str} {np1 np2 hpos1 hpos2 pos : Pos} {body : List Stmt} {b1 b2 : Stmt} {suite1 suite2 : List Stmt} {tb : XK → TS} {ts1 ts2 : TS} {i : Nat}
theorem test_of {x : Str} {np hpos : Pos} {e C T dx : Addr} {b : Bool} {pins : List (Addr × Obj)} {σ : St} {H : Hp} {s : Shared} {R : Result → Shared → Prop} (hx : PySem.W.exmOne X.K (.ref C) (.ref T) = some b) (hg : Gl X x) (hm : X.mg x = some (.ref T)) (hdb : (x == ("__debug__" : Str)) = false)
    (I : Inv X pins σ H s) (ld : Landed s.heap e C dx) (h : R (.ok (if b = true then .brk else .next)) s) : codeAny (model X.prog X.w) (X.A.mark (some (.ref e))) (.handlers (.ref e) [.ExceptHandler (some (.Name x np)) none [] hpos] X.env) R s := by
  refine codeAny_handlers_test (ld_glob (X := Xm X (.ref e) fun _ _ => False) (inv_in I) hg hm ?_ hdb)
  obtain ⟨o, vs, T', oT, tss, he, hc, hdx, hd, h1, hTe, hT, hdT, h3⟩ := ld
  have LT : PySem.W.Looks (model X.prog X.w) s.heap (typeOf (.ref e)) (.ref C) := by
    have := (PySem.W.Looks.ld (M := model X.prog X.w) (part := none) he).andThen (f := fun o => pure o.cls) (b := o.cls) .now
    rw [hc] at this
    exact this
  exact (PySem.W.exm_one I.kIn LT hx).here h
theorem flies_2 {D : Ends} {pins : List (Addr × Obj)} (c : XCls X.K CF fI) (hg1 : Gl X x1) (hm1 : X.mg x1 = some (.ref CF)) (hg2 : Gl X x2) (hm2 : X.mg x2 = some (.ref U)) (hdb1 : (x1 == ("__debug__" : Str)) = false) (hdb2 : (x2 == ("__debug__" : Str)) = false)
    (hf : X.env.frame = some X.env.locals) (hst : ∃ outer, X.stack = X.env :: outer) (hN : X.N.Nodup) (hi : X.N[i]? = some n) (hl : X.env.scope.names.lookup n = some .local)
    (hs1 : ∀ v, PSs (Xm X v fun _ _ => False) (b1 :: suite1) ts1) (hs2 : ∀ v, PSs (Xm X v fun _ _ => False) (b2 :: suite2) ts2) :
    Flies (Xt X (X.pn ++ pins) (txe X pins D [.ExceptHandler (some (.Name x1 np1)) none (b1 :: suite1) hpos1, .ExceptHandler (some (.Name x2 np2)) (some n) (b2 :: suite2) hpos2])) (w2 X CF U i ts1 ts2 D) := by
  intro pins' σ H s e C' dx I0 fl hn y q
  have I := inv_back I0
  obtain ⟨outer, hst⟩ := hst
  have hfr : X.A.frames = some (X.env :: outer) := by rw [← hst]; exact I.ok.frames
  have hfun : s.heap.FunFrames X.base (X.env :: outer) := by rw [← hst]; exact I.stack
  refine fly_land hfr hfun hf fl fun h' ld k => ?_
  rw [← hst] at k
  have y' := young_back y
  have I1 : Inv X pins (noneOf X) H { s with heap := h' } := inv_forget (Inv_kept I hn y' k)
  rcases q with ⟨ec, q⟩ | ⟨C, dx', ec, sub, ed, q⟩
  · cases ec
    refine wpAny_handleBy_cons (test_own c hg1 hm1 hdb1 I1 ld ?_) (by intro z; cases z)
    refine codeAny_handlers_suite (landed_again ld ?_)
    refine wpAny_mono (hs1 (.ref e) pins _ (noneOf X) H (Rt D) (inv_in I1) q) (fun f s2 z => ?_) fun _ _ z => z.elim
    exact suite_end I.ok z
  · cases ec
    cases ed
    refine wpAny_handleBy_cons (test_of sub.no hg1 hm1 hdb1 I1 ld ?_) (by intro z; cases z)
    refine wpAny_handleBy_cons (test_of sub.yes hg2 hm2 hdb2 I1 ld ?_) (by intro z; cases z)
    refine codeAny_handlers_suite_as (landed_again ld ?_)
    obtain ⟨o, vs, T, oT, tss, he, hc, hdx, hd, h1, _⟩ := ld
    have I2 : Inv X pins (noneOf X) (upd H e (XL e C' dx)) { s with heap := h' } := Inv_track I1 y' hn (xl_ok he hc hdx hd)
    refine store_ok (X := Xm X (.ref e) fun _ _ => False) (v := .ref e) (inv_in I2) hN hi (.inl hl) rfl (fun s3 I3 => ?_) (.inr hl)
    refine wpAny_mono (hs2 (.ref e) pins _ _ _ (Rt D) I3 (q e hn)) (fun f s2 z => ?_) fun _ _ z => z.elim
    show wpAny _ _ _ _ _ _
    cases f with
    | next => obtain ⟨_, _, _, z⟩ := z; exact z.elim
    | brk => obtain ⟨_, _, _, z⟩ := z; exact z.elim
    | cont => obtain ⟨_, _, _, z⟩ := z; exact z.elim
    | ret u =>
      obtain ⟨v, σ4, H4, I4, rv, z⟩ := z
      have I5 := inv_out I.ok I4
      obtain ⟨m, hm4, _⟩ := id I5.loc
      have hcls : (X.env.scope.kind == .class || (X.env.scope.kind == .module && X.env.locals != X.env.globals)) = false := by rw [I.ok.kind]; rfl
      exact wpAny_nameGoes hl hm4 hcls fun h5 m5 n5 sb5 => ⟨v, noneOf X, H4, inv_locals I5 n5 sb5, rv, z⟩
theorem ps_try2 (c : XCls X.K CF fI) (hg1 : Gl X x1) (hm1 : X.mg x1 = some (.ref CF)) (hg2 : Gl X x2) (hm2 : X.mg x2 = some (.ref U)) (hf : X.env.frame = some X.env.locals) (hst : ∃ outer, X.stack = X.env :: outer) (hN : X.N.Nodup) (hi : X.N[i]? = some n) (hl : X.env.scope.names.lookup n = some .local)
    (hb : ∀ pn xe E, Flies (Xt X pn xe) E → PSs (Xt X pn xe) body (tb E)) (hs1 : ∀ v, PSs (Xm X v fun _ _ => False) (b1 :: suite1) ts1) (hs2 : ∀ v, PSs (Xm X v fun _ _ => False) (b2 :: suite2) ts2)
    (hdb1 : (x1 == ("__debug__" : Str)) = false := by decide) (hdb2 : (x2 == ("__debug__" : Str)) = false := by decide) :
    PS X (.Try body [.ExceptHandler (some (.Name x1 np1)) none (b1 :: suite1) hpos1, .ExceptHandler (some (.Name x2 np2)) (some n) (b2 :: suite2) hpos2] [] [] pos) (tTry2 X CF U i tb ts1 ts2) := by
  intro pins s σ H D I h
  refine wpAny_Try_except (wpAny_mono (hb _ _ _ (flies_2 (pins := pins) (D := D) c hg1 hm1 hg2 hm2 hdb1 hdb2 hf hst hN hi hl hs1 hs2) [] s σ H D (inv_fore I) h) (fun f s1 z => ?_) fun e s1 z => z)
  have z' := body_end I.ok z
  cases f with
  | next => exact wpAny_execs_nil z'
  | brk => exact z'
  | cont => exact z'
  | ret u => exact z'
end
end L2.XC

set_option Elab.async false
set_option linter.all false
set_option maxRecDepth 100000
set_option maxHeartbeats 2000000
namespace L2
open PySem PySem.Spec PyProof.Rows
section
variable {X : Cx}
/-- list + list, of lists that are only read too -/
def rCatL (K : PySem.W.Frag) : R2 := fun x y H Q => ∃ l b xs zs, x = .ref l ∧ y = .ref b ∧ SqL K H l xs ∧ SqL K H b zs ∧ xs.length + zs.length ≤ sizeLine ∧ ∀ p, H p = none → Q (.ref p) (upd H p (.lst (xs ++ zs)))
theorem op_catL : OpR X (binaryOp .Add) (rCatL X.K) := by
  intro pins s σ H x y v u Q I rx ry h
  obtain ⟨l, b, xs, zs, rfl, rfl, hl, hb, hz, q⟩ := h
  cases rx
  cases ry
  obtain ⟨its, rv, ⟨⟨c1, d1, dt1, sl1⟩, n, ho, hc, hdn, hd⟩, _⟩ := I.list hl
  obtain ⟨its2, rv2, ⟨⟨c2, d2, dt2, sl2⟩, n2, ho2, hc2, hdn2, hd2⟩, _⟩ := I.list hb
  simp only at hc hd hdn hc2 hd2 hdn2
  subst hc hd hdn hc2 hd2 hdn2
  have l1 := rv.length
  have l2 := rv2.length
  have ea : its.toArray ++ its2.toArray = (its ++ its2).toArray := by simp
  refine concat_meets ⟨_, ho, rfl⟩ ⟨_, ho2, rfl⟩ noFill_list_add seq_list_add PySem.F.slot_list_add PySem.F.entry_list_add (PySem.F.args_list_add_2 _ _) (list_addW l b its.toArray its2.toArray n n2 none none sl1 sl2 (by rw [List.size_toArray, List.size_toArray]; omega)) ⟨ho, ho2, ?_⟩
  rw [ea]
  exact ⟨.ref _, _, I.lnew (t' := s.toks) (rv.append rv2) (by rw [List.length_append]; omega), rfl, q _ I.fresh⟩
end
end L2

set_option Elab.async false
set_option linter.all false
set_option maxRecDepth 100000
set_option maxHeartbeats 2000000
namespace L2
open PySem PySem.Spec PyProof.Rows
/-! ### large ints -/
section
variable {X : Cx}
theorem op_mulB : OpR X (binaryOp .Mult) (rI (fun i j => PySem.IntMulOk i j) fun i j => .int (i * j)) := opI fun _ _ _ _ _ _ _ hc q => mul_int q hc
def ipM : TIp := fun x y H Q => ∃ i j, x = .int i ∧ y = .int j ∧ PySem.IntMulOk i j ∧ Q (.int (i * j)) H
theorem ip_mulB : PIp X .Mult ipM := by
  intro pins s σ H x y v u Q I r1 r2 h
  obtain ⟨i, j, e1, e2, hm, q⟩ := h
  subst e1; subst e2
  obtain ⟨t, rfl⟩ := r1
  obtain ⟨t', rfl⟩ := r2
  exact imul_int ⟨.int _, H, I.tok _, ⟨_, rfl⟩, q⟩ hm
theorem op_fdivB (ht : X.prog.given.tree = none) (hst : X.stack = X.env :: X.outer) (hg : X.env.scope.isGenerator = false) (hc : X.env.scope.isCoroutine = false) (hd : X.A.depth + 100 < recursionLimit) :
    OpR X (binaryOp .FloorDiv) (rI (fun _ j => j ≠ 0) fun i j => .int (i.fdiv j)) := by
  intro pins s σ H x y v u Q I rx ry h
  obtain ⟨i, j, rfl, rfl, hj, q⟩ := h
  obtain ⟨t, rfl⟩ := rx
  obtain ⟨t2, rfl⟩ := ry
  exact floordiv_int hj ⟨.int _, H, I.tok _, ⟨_, rfl⟩, q⟩ (.inr (PySem.PylongRoom.of I.nolimit hd (PySem.SeerAt.of I.seer ht (by rw [I.ok.frames, hst]) hg hc I.ok.blt I.ok.glob)))
def rBits : V → List V → Hp → VK → Prop := fun x xs H Q => ∃ i, x = .int i ∧ xs = [] ∧ Q (.int ((Builtin.Int.intBits i : Nat) : Int)) H
theorem mt_bits : MtR X "int.bit_length" rBits := by
  intro pins s σ H x xs v us Q I rx rs h
  obtain ⟨i, rfl, rfl, q⟩ := h
  obtain ⟨t, rfl⟩ := rx
  have hus := rs.zero
  subst hus
  exact call_int_bit_length ⟨.int _, H, I.tok _, ⟨_, rfl⟩, q⟩
end
end L2

set_option linter.all false
namespace Vm
open Sw
def val (l : Bytes) : Nat := l.foldr (fun (x : UInt8) (m : Nat) => x.toNat % 128 + 128 * m) 0
theorem val_snoc : ∀ (l : Bytes) (c : UInt8), val (l ++ [c]) = val l + c.toNat % 128 * 128 ^ l.length
  | [], c => by simp [val]
  | x :: l, c => by
    have ih := val_snoc l c
    show x.toNat % 128 + 128 * val (l ++ [c]) = x.toNat % 128 + 128 * val l + c.toNat % 128 * 128 ^ (l.length + 1)
    rw [ih, Nat.pow_succ, Nat.mul_add, ← Nat.mul_assoc (c.toNat % 128), Nat.mul_comm 128 (c.toNat % 128 * 128 ^ l.length)]
    omega
def High (l : Bytes) : Prop := ∀ c ∈ l, 128 ≤ c.toNat
theorem tw_all : ∀ {l : Bytes}, High l → l.takeWhile (fun (c : UInt8) => decide (128 ≤ c.toNat)) = l
  | [], _ => rfl
  | c :: l, h => by
    rw [List.takeWhile_cons, if_pos (decide_eq_true (h c (by simp))), tw_all (l := l) fun d hd => h d (by simp [hd])]
theorem tw_stop : ∀ {l : Bytes} {c : UInt8} {r : Bytes}, High l → c.toNat < 128 → (l ++ c :: r).takeWhile (fun (c : UInt8) => decide (128 ≤ c.toNat)) = l
  | [], c, r, _, h => by
    rw [List.nil_append, List.takeWhile_cons, if_neg (by simp; omega)]
  | d :: l, c, r, hl, h => by
    rw [List.cons_append, List.takeWhile_cons, if_pos (decide_eq_true (hl d (by simp))), tw_stop (l := l) (fun e he => hl e (by simp [he])) h]
theorem vary_five {p : Nat} {l r : Bytes} (hl : High l) (h5 : l.length = 5) : varyOf p (l ++ r) = .error ⟨3, p⟩ := by
  have e : (l ++ r).take 5 = l := by rw [← h5, List.take_left]
  unfold varyOf
  simp only [e, tw_all hl, h5, if_true]
theorem vary_end {p : Nat} {l : Bytes} (hl : High l) (h5 : l.length < 5) : varyOf p l = .error ⟨1, p + l.length⟩ := by
  have e : l.take 5 = l := List.take_of_length_le (by omega)
  unfold varyOf
  simp only [e, tw_all hl, List.drop_length, if_neg (show ¬ l.length = 5 by omega)]
theorem vary_stop {p : Nat} {l r : Bytes} {c : UInt8} (hl : High l) (h5 : l.length < 5) (hc : c.toNat < 128) :
    varyOf p (l ++ c :: r) = (if l.length > 0 ∧ c = 0 then .error ⟨3, p⟩ else if 2 ^ 32 ≤ val (l ++ [c]) then .error ⟨3, p⟩ else .ok (val (l ++ [c]), l.length + 1)) := by
  have e : (l ++ c :: r).take 5 = l ++ c :: r.take (4 - l.length) := by
    rw [List.take_append, List.take_of_length_le (by omega), show 5 - l.length = (4 - l.length) + 1 by omega, List.take_succ_cons]
  unfold varyOf
  simp only [e, tw_stop hl hc, List.drop_left, if_neg (show ¬ l.length = 5 by omega)]
  rfl
theorem vary_used {p n l : Nat} {b : Bytes} (h : varyOf p b = .ok (n, l)) : 1 ≤ l ∧ l ≤ b.length ∧ l ≤ 5 ∧ n < 2 ^ 32 := by
  unfold varyOf at h
  simp only at h
  generalize hh : ((b.take 5).takeWhile fun (c : UInt8) => decide (128 ≤ c.toNat)) = t at h
  have ht : t.length ≤ 5 := by
    rw [← hh]
    exact Nat.le_trans (List.takeWhile_sublist _).length_le (by rw [List.length_take]; exact Nat.min_le_left _ _)
  by_cases h5 : t.length = 5
  · rw [if_pos h5] at h; cases h
  · rw [if_neg h5] at h
    split at h
    · cases h
    · rename_i c r hd
      have hlen : t.length < b.length := by
        apply Nat.lt_of_not_le
        intro hle
        rw [List.drop_eq_nil_of_le hle] at hd
        cases hd
      split at h
      · cases h
      · split at h
        · cases h
        · rename_i hn
          injection h with h
          injection h with h1 h2
          subst h2
          subst h1
          exact ⟨by omega, by omega, by omega, by omega⟩
end Vm

set_option linter.all false
namespace Um
open Sw
def cf (c : Nat) : Nat := if 194 ≤ c ∧ c ≤ 223 then 1 else if 224 ≤ c ∧ c ≤ 239 then 2 else if 240 ≤ c ∧ c ≤ 244 then 3 else 0
def ls (c : Nat) : Nat := if c = 224 then 160 else if c = 240 then 144 else 128
def hs (c : Nat) : Nat := if c = 237 then 159 else if c = 244 then 143 else 191
/-- the bytes one by one: k further ones are due, the next from lo to hi; where it goes wrong -/
def urun : Nat → Nat → Nat → Nat → Bytes → Option Nat
  | k, _, _, p, [] => if 0 < k then some p else none
  | k, lo, hi, p, c :: r => if 0 < k then (if c.toNat < lo ∨ hi < c.toNat then some p else urun (k - 1) 128 191 (p + 1) r)
    else if 128 ≤ c.toNat then (if cf c.toNat = 0 then some p else urun (cf c.toNat) (ls c.toNat) (hs c.toNat) (p + 1) r) else urun 0 lo hi (p + 1) r
theorem urun_zero : ∀ (b : Bytes) (lo hi lo' hi' p : Nat), urun 0 lo hi p b = urun 0 lo' hi' p b
  | [], _, _, _, _, _ => rfl
  | c :: r, lo, hi, lo', hi', p => by
    unfold urun
    rw [if_neg (Nat.lt_irrefl 0), if_neg (Nat.lt_irrefl 0)]
    by_cases h : 128 ≤ c.toNat
    · rw [if_pos h, if_pos h]
    · rw [if_neg h, if_neg h]
      exact urun_zero r lo hi lo' hi' (p + 1)
theorem leads_eq : ∀ c, c < 256 → leads c = if c < 128 then some (0, 0, 0) else if cf c = 0 then none else some (cf c, ls c, hs c) := by decide +kernel
theorem follow_run : ∀ (k lo hi x p : Nat) (b : Bytes), match follow k lo hi x p b with
    | .error q => urun k lo hi p b = some q
    | .ok (_, r) => urun k lo hi p b = urun 0 128 191 (p + (b.length - r.length)) r ∧ r.length ≤ b.length
  | 0, lo, hi, x, p, b => by
    unfold follow
    refine ⟨?_, Nat.le_refl _⟩
    rw [Nat.sub_self, Nat.add_zero]
    exact urun_zero b lo hi 128 191 p
  | k + 1, lo, hi, x, p, [] => by
    unfold follow urun
    rw [if_pos (Nat.succ_pos k)]
  | k + 1, lo, hi, x, p, c :: b => by
    unfold follow
    by_cases h : lo ≤ c.toNat ∧ c.toNat ≤ hi
    · rw [if_pos h]
      have ih := follow_run k 0x80 0xBF (64 * x + c.toNat % 64) (p + 1) b
      have e : urun (k + 1) lo hi p (c :: b) = urun k 128 191 (p + 1) b := by
        conv => lhs; unfold urun
        rw [if_pos (Nat.succ_pos k), if_neg (by omega)]
        rfl
      rw [e]
      cases hf : follow k 0x80 0xBF (64 * x + c.toNat % 64) (p + 1) b with
      | error q => rw [hf] at ih; exact ih
      | ok z =>
        obtain ⟨y, r⟩ := z
        rw [hf] at ih
        obtain ⟨ih1, ih2⟩ := ih
        refine ⟨?_, by rw [List.length_cons]; omega⟩
        rw [ih1, List.length_cons]
        congr 1
        omega
    · rw [if_neg h]
      show urun (k + 1) lo hi p (c :: b) = some p
      unfold urun
      rw [if_pos (Nat.succ_pos k), if_pos (by omega)]
theorem scal_run : ∀ (f p : Nat) (b : Bytes), b.length ≤ f → match scalarsFrom f p b with
    | .error q => urun 0 128 191 p b = some q
    | .ok _ => urun 0 128 191 p b = none
  | 0, p, [], _ => rfl
  | f + 1, p, [], _ => rfl
  | 0, p, c :: b, h => by simp at h
  | f + 1, p, c :: b, h => by
    have hlen : b.length ≤ f := by rw [List.length_cons] at h; omega
    have hl := leads_eq c.toNat c.toNat_lt
    have e0 : urun 0 128 191 p (c :: b) = if 128 ≤ c.toNat then (if cf c.toNat = 0 then some p else urun (cf c.toNat) (ls c.toNat) (hs c.toNat) (p + 1) b) else urun 0 128 191 (p + 1) b := by
      conv => lhs; unfold urun
      rw [if_neg (Nat.lt_irrefl 0)]
    rw [e0]
    unfold scalarsFrom scalarAt
    dsimp only
    by_cases h1 : c.toNat < 128
    · rw [if_pos h1] at hl
      rw [hl, if_neg (by omega)]
      simp only [follow, List.length_cons]
      have ih := scal_run f (p + (b.length + 1 - b.length)) b hlen
      rw [show b.length + 1 - b.length = 1 by omega] at ih ⊢
      cases hs' : scalarsFrom f (p + 1) b with
      | error q => rw [hs'] at ih; exact ih
      | ok l => rw [hs'] at ih; exact ih
    · rw [if_neg h1] at hl
      rw [if_pos (by omega)]
      by_cases h2 : cf c.toNat = 0
      · rw [if_pos h2] at hl
        rw [hl, if_pos h2]
      · rw [if_neg h2] at hl
        rw [hl, if_neg h2]
        have fr := follow_run (cf c.toNat) (ls c.toNat) (hs c.toNat) (firstBits (cf c.toNat) c.toNat) (p + 1) b
        simp only
        cases hf : follow (cf c.toNat) (ls c.toNat) (hs c.toNat) (firstBits (cf c.toNat) c.toNat) (p + 1) b with
        | error q => rw [hf] at fr; exact fr
        | ok z =>
          obtain ⟨y, r⟩ := z
          rw [hf] at fr
          obtain ⟨f1, f2⟩ := fr
          simp only [List.length_cons]
          have ih := scal_run f (p + (b.length + 1 - r.length)) r (by omega)
          rw [f1, show p + 1 + (b.length - r.length) = p + (b.length + 1 - r.length) by omega]
          cases hs' : scalarsFrom f (p + (b.length + 1 - r.length)) r with
          | error q => rw [hs'] at ih; exact ih
          | ok l => rw [hs'] at ih; exact ih
theorem text_run (p : Nat) (b : Bytes) : match textOf p b with
    | .error e => e.kind = 5 ∧ urun 0 128 191 p b = some e.place
    | .ok _ => urun 0 128 191 p b = none := by
  have h := scal_run b.length p b (Nat.le_refl _)
  unfold textOf scalars
  cases hs' : scalarsFrom b.length p b with
  | error q => rw [hs'] at h; exact ⟨rfl, h⟩
  | ok l => rw [hs'] at h; exact h
/-- further bytes one by one, the next from lo to hi: the first that is wrong -/
def fbad : Nat → Nat → Nat → Bytes → Option Nat
  | _, _, _, [] => none
  | lo, hi, p, c :: r => if c.toNat < lo ∨ hi < c.toNat then some p else fbad 128 191 (p + 1) r
theorem urun_further : ∀ (k lo hi p : Nat) (b : Bytes), urun k lo hi p b = match fbad lo hi p (b.take k) with
    | some q => some q
    | none => if b.length < k then some (p + b.length) else urun 0 128 191 (p + k) (b.drop k)
  | 0, lo, hi, p, b => by
    rw [List.take_zero]
    show _ = if b.length < 0 then _ else _
    rw [if_neg (Nat.not_lt_zero _), List.drop_zero]
    exact urun_zero b lo hi 128 191 p
  | k + 1, lo, hi, p, [] => by
    show (if 0 < k + 1 then some p else none) = if 0 < k + 1 then some (p + 0) else _
    rw [if_pos (Nat.succ_pos k), if_pos (Nat.succ_pos k)]
    rfl
  | k + 1, lo, hi, p, c :: r => by
    have ih := urun_further k 128 191 (p + 1) r
    show (if 0 < k + 1 then (if c.toNat < lo ∨ hi < c.toNat then some p else urun k 128 191 (p + 1) r) else _) = _
    rw [if_pos (Nat.succ_pos k), List.take_succ_cons]
    show _ = match (if c.toNat < lo ∨ hi < c.toNat then some p else fbad 128 191 (p + 1) (r.take k)) with
      | some q => some q
      | none => _
    by_cases h : c.toNat < lo ∨ hi < c.toNat
    · rw [if_pos h, if_pos h]
    · rw [if_neg h, if_neg h, ih]
      cases fbad 128 191 (p + 1) (r.take k) with
      | some q => rfl
      | none =>
        simp only [List.length_cons, List.drop_succ_cons]
        by_cases hl : r.length < k
        · rw [if_pos hl, if_pos (by omega)]
          congr 1
          omega
        · rw [if_neg hl, if_neg (by omega), show p + 1 + k = p + (k + 1) by omega]
end Um

set_option linter.all false
namespace Hm
open Sw
/-- a number behind its kind: how many bytes its varying number has, how many its amount -/
def numAt (kp p : Nat) (b : Bytes) : Except Fault (Nat × Nat) := match varyOf p b with
  | .error e => .error e
  | .ok (z, l) => if NUMBER < z / 2 then .error ⟨4, kp⟩ else match someOf (p + l) (z / 2) (b.drop l) with
    | .error e => .error e
    | .ok m => if m.getLast? = some 0 ∨ z = 1 then .error ⟨4, kp⟩ else .ok (l, z / 2)
/-- bytes or a text behind the kind: how many they are, how many bytes their varying number has -/
def strAt (text : Bool) (p : Nat) (b : Bytes) : Except Fault (Nat × Nat) := match varyOf p b with
  | .error e => .error e
  | .ok (n, l) => match someOf (p + l) n (b.drop l) with
    | .error e => .error e
    | .ok m => if text = true then (match textOf (p + l) m with
        | .error e => .error e
        | .ok _ => .ok (n, l)) else .ok (n, l)
/-- a name: its length, how many bytes its varying number has -/
def nameAt (prev : Option Bytes) (p : Nat) (b : Bytes) : Except Fault (Nat × Nat) := match varyOf p b with
  | .error e => .error e
  | .ok (k, l) => if k = 0 ∨ NAME < k then .error ⟨6, p⟩ else match someOf (p + l) k (b.drop l) with
    | .error e => .error e
    | .ok m => match textOf (p + l) m with
      | .error e => .error e
      | .ok _ => if (match prev with
          | some q => bytesBefore q m
          | none => true) = false then .error ⟨6, p⟩ else .ok (k, l)
theorem some_ok {p n : Nat} {b m : Bytes} (h : someOf p n b = .ok m) : n ≤ b.length ∧ m = b.take n := by
  unfold someOf at h
  split at h
  · cases h
  · rename_i hl
    injection h with h
    exact ⟨by omega, h.symm⟩
theorem some_of {p n : Nat} {b : Bytes} (h : n ≤ b.length) : someOf p n b = .ok (b.take n) := by
  unfold someOf
  rw [if_neg (by omega)]
theorem some_no {p n : Nat} {b : Bytes} (h : b.length < n) : someOf p n b = .error ⟨1, p + b.length⟩ := by
  unfold someOf
  rw [if_pos h]
/-- the last of n bytes -/
theorem last_of {b : Bytes} {n : Nat} (h : n ≤ b.length) (hn : 0 < n) : (b.take n).getLast? = b[n - 1]? := by
  rw [List.getLast?_eq_getElem?, List.length_take, Nat.min_eq_left h, List.getElem?_take_of_lt (by omega)]
end Hm

set_option linter.all false
namespace Pm
open Sw Hm
/-- a part's numbers -/
structure PD where
  kind : Nat
  place : Nat
  ins : Nat
  fin : Nat
  size : Nat
  depth : Nat
  np : Nat
  nl : Nat
/-- a part with all within it -/
inductive PT where
  | node (d : PD) (ms : List PT)
def PT.d : PT → PD
  | .node d _ => d
def PT.ms : PT → List PT
  | .node _ ms => ms
def PT.nm (t : PT) (np nl : Nat) : PT := .node { t.d with np := np, nl := nl } t.ms
/-- a kind and what stands behind it up to the first member: the kind, the size, how many bytes up to its inner ones, how many bytes -/
def headAt (lv p : Nat) (b : Bytes) : Except Fault (Nat × Nat × Nat × Nat) := match b with
  | [] => .error ⟨1, p⟩
  | k :: r => if 8 < k.toNat then .error ⟨2, p⟩ else if DEEP < lv then .error ⟨7, p⟩
    else if k.toNat = 2 then (match numAt p (p + 1) r with
      | .error e => .error e
      | .ok (l, h) => .ok (k.toNat, 0, 1 + l, 1 + l + h))
    else if k.toNat = 3 ∨ k.toNat = 4 then (match strAt (decide (k.toNat = 4)) (p + 1) r with
      | .error e => .error e
      | .ok (n, l) => .ok (k.toNat, n, 1 + l, 1 + l + n))
    else if k.toNat = 5 ∨ k.toNat = 6 then (match varyOf (p + 1) r with
      | .error e => .error e
      | .ok (n, l) => .ok (k.toNat, n, 1 + l, 1 + l))
    else if k.toNat = 7 then (match someOf (p + 1) 8 r with
      | .error e => .error e
      | .ok _ => .ok (k.toNat, 0, 1, 9))
    else if k.toNat = 8 then (match someOf (p + 1) 32 r with
      | .error e => .error e
      | .ok _ => .ok (k.toNat, 0, 1, 33))
    else .ok (k.toNat, 0, 1, 1)
/-- a member's name, if it has one -/
def nmAt (named : Bool) (prev : Option Bytes) (p : Nat) (b : Bytes) : Except Fault (Nat × Nat) := if named = true then Hm.nameAt prev p b else .ok (0, 0)
mutual
/-- a part: it, how many bytes -/
def vAt : Nat → Nat → Nat → Bytes → Except Fault (PT × Nat)
  | 0, _, p, b => .error ⟨1, p + b.length⟩
  | f + 1, lv, p, b => match headAt lv p b with
    | .error e => .error e
    | .ok (k, n, i, u) => if k = 5 ∨ k = 6 then (match rAt f lv (decide (k = 6)) n none (p + u) (b.drop u) with
        | .error e => .error e
        | .ok (ms, dp, used) => .ok (.node ⟨k, p, p + i, p + u + used, n, dp + 1, 0, 0⟩ ms, u + used))
      else .ok (.node ⟨k, p, p + i, p + u, n, 1, 0, 0⟩ [], u)
/-- n members: they, the greatest depth, how many bytes -/
def rAt : Nat → Nat → Bool → Nat → Option Bytes → Nat → Bytes → Except Fault (List PT × Nat × Nat)
  | 0, _, _, _, _, p, b => .error ⟨1, p + b.length⟩
  | _ + 1, _, _, 0, _, _, _ => .ok ([], 0, 0)
  | f + 1, lv, named, n + 1, prev, p, b => match nmAt named prev p b with
    | .error e => .error e
    | .ok (k, l) => match vAt f (lv + 1) (p + l + k) (b.drop (l + k)) with
      | .error e => .error e
      | .ok (t, u) => match rAt f lv named n (some ((b.drop l).take k)) (p + l + k + u) (b.drop (l + k + u)) with
        | .error e => .error e
        | .ok (ms, dp, used) => .ok (t.nm (if named = true then p + l else 0) k :: ms, max t.d.depth dp, l + k + u + used)
end
theorem num_used {kp p l' u : Nat} {b : Bytes} (h : numAt kp p b = .ok (l', u)) : 1 ≤ l' ∧ l' + u ≤ b.length := by
  unfold numAt at h
  cases ev : varyOf p b with
  | error e => rw [ev] at h; cases h
  | ok x =>
    obtain ⟨z, l⟩ := x
    rw [ev] at h
    obtain ⟨u1, u2, u3, u4⟩ := Vm.vary_used ev
    dsimp only at h
    split at h
    · cases h
    · cases es : someOf (p + l) (z / 2) (b.drop l) with
      | error e => rw [es] at h; cases h
      | ok m =>
        rw [es] at h
        obtain ⟨s1, s2⟩ := some_ok es
        rw [List.length_drop] at s1
        dsimp only at h
        split at h
        · cases h
        · injection h with h
          injection h with h1 h2
          omega
theorem str_used {t : Bool} {p n u : Nat} {b : Bytes} (h : strAt t p b = .ok (n, u)) : 1 ≤ u ∧ u + n ≤ b.length := by
  unfold strAt at h
  cases ev : varyOf p b with
  | error e => rw [ev] at h; cases h
  | ok x =>
    obtain ⟨z, l⟩ := x
    rw [ev] at h
    obtain ⟨u1, u2, u3, u4⟩ := Vm.vary_used ev
    dsimp only at h
    cases es : someOf (p + l) z (b.drop l) with
    | error e => rw [es] at h; cases h
    | ok m =>
      rw [es] at h
      obtain ⟨s1, s2⟩ := some_ok es
      rw [List.length_drop] at s1
      dsimp only at h
      have fin : (Except.ok (z, l) : Except Fault (Nat × Nat)) = .ok (n, u) → 1 ≤ u ∧ u + n ≤ b.length := fun h => by
        injection h with h
        injection h with h1 h2
        omega
      cases t with
      | false => exact fin h
      | true =>
        rw [if_pos rfl] at h
        cases et : textOf (p + l) m with
        | error e => rw [et] at h; cases h
        | ok t => rw [et] at h; exact fin h
theorem name_used {prev : Option Bytes} {p k l : Nat} {b : Bytes} (h : Hm.nameAt prev p b = .ok (k, l)) : l + k ≤ b.length ∧ 1 ≤ k ∧ k ≤ 255 ∧ 1 ≤ l := by
  unfold Hm.nameAt at h
  cases ev : varyOf p b with
  | error e => rw [ev] at h; cases h
  | ok x =>
    obtain ⟨z, l'⟩ := x
    rw [ev] at h
    obtain ⟨u1, u2, u3, u4⟩ := Vm.vary_used ev
    dsimp only at h
    split at h
    · cases h
    · rename_i hz
      have hz' : ¬ (z = 0 ∨ 255 < z) := hz
      cases es : someOf (p + l') z (b.drop l') with
      | error e => rw [es] at h; cases h
      | ok m =>
        rw [es] at h
        obtain ⟨s1, s2⟩ := some_ok es
        rw [List.length_drop] at s1
        dsimp only at h
        cases et : textOf (p + l') m with
        | error e => rw [et] at h; cases h
        | ok t =>
          rw [et] at h
          dsimp only at h
          have fin : (Except.ok (z, l') : Except Fault (Nat × Nat)) = .ok (k, l) → l + k ≤ b.length ∧ 1 ≤ k ∧ k ≤ 255 ∧ 1 ≤ l := fun h => by
            injection h with h
            injection h with h1 h2
            omega
          cases prev with
          | none => exact fin h
          | some q0 =>
            dsimp only at h
            by_cases hb : bytesBefore q0 m = false
            · rw [if_pos hb] at h
              cases h
            · rw [if_neg hb] at h
              exact fin h
theorem nm_used {named : Bool} {prev : Option Bytes} {p k l : Nat} {b : Bytes} (h : nmAt named prev p b = .ok (k, l)) : l + k ≤ b.length ∧ k ≤ 255 := by
  unfold nmAt at h
  cases named with
  | true =>
    rw [if_pos rfl] at h
    have := name_used h
    omega
  | false =>
    rw [if_neg Bool.false_ne_true] at h
    injection h with h
    injection h with h1 h2
    omega
theorem head_used {lv p k n i u : Nat} {b : Bytes} (h : headAt lv p b = .ok (k, n, i, u)) : 1 ≤ u ∧ u ≤ b.length ∧ k ≤ 8 := by
  unfold headAt at h
  cases b with
  | nil => cases h
  | cons c r =>
    dsimp only at h
    rw [List.length_cons]
    split at h
    · cases h
    · rename_i h8
      split at h
      · cases h
      · split at h
        · cases e : numAt p (p + 1) r with
          | error e' => rw [e] at h; cases h
          | ok x =>
            obtain ⟨x1, x2⟩ := x
            rw [e] at h
            have := num_used e
            injection h with h
            injection h with h1 h2
            injection h2 with h2 h3
            injection h3 with h3 h4
            omega
        · split at h
          · cases e : strAt (decide (c.toNat = 4)) (p + 1) r with
            | error e' => rw [e] at h; cases h
            | ok x =>
              obtain ⟨x1, x2⟩ := x
              rw [e] at h
              have := str_used e
              injection h with h
              injection h with h1 h2
              injection h2 with h2 h3
              injection h3 with h3 h4
              omega
          · split at h
            · cases e : varyOf (p + 1) r with
              | error e' => rw [e] at h; cases h
              | ok x =>
                obtain ⟨x1, x2⟩ := x
                rw [e] at h
                have := Vm.vary_used e
                injection h with h
                injection h with h1 h2
                injection h2 with h2 h3
                injection h3 with h3 h4
                omega
            · split at h
              · cases e : someOf (p + 1) 8 r with
                | error e' => rw [e] at h; cases h
                | ok x =>
                  rw [e] at h
                  have := (some_ok e).1
                  injection h with h
                  injection h with h1 h2
                  injection h2 with h2 h3
                  injection h3 with h3 h4
                  omega
              · split at h
                · cases e : someOf (p + 1) 32 r with
                  | error e' => rw [e] at h; cases h
                  | ok x =>
                    rw [e] at h
                    have := (some_ok e).1
                    injection h with h
                    injection h with h1 h2
                    injection h2 with h2 h3
                    injection h3 with h3 h4
                    omega
                · injection h with h
                  injection h with h1 h2
                  injection h2 with h2 h3
                  injection h3 with h3 h4
                  omega
/-! ### enough fuel -/
mutual
theorem vAt_used : ∀ (f lv p : Nat) (b : Bytes) {t : PT} {u : Nat}, vAt f lv p b = .ok (t, u) → 1 ≤ u ∧ u ≤ b.length ∧ 1 ≤ t.d.depth
  | 0, _, p, b, _, _, h => by unfold vAt at h; cases h
  | f + 1, lv, p, b, t, u, h => by
    unfold vAt at h
    cases eh : headAt lv p b with
    | error e => rw [eh] at h; cases h
    | ok x =>
      obtain ⟨k, n, i, u'⟩ := x
      rw [eh] at h
      obtain ⟨h1, h2, h3⟩ := head_used eh
      dsimp only at h
      by_cases hk : k = 5 ∨ k = 6
      · rw [if_pos hk] at h
        cases er : rAt f lv (decide (k = 6)) n none (p + u') (b.drop u') with
        | error e => rw [er] at h; cases h
        | ok y =>
          obtain ⟨ms', dp, used⟩ := y
          rw [er] at h
          have hr := rAt_used f lv _ _ _ _ _ er
          rw [List.length_drop] at hr
          injection h with h
          injection h with e1 e2
          subst e1
          dsimp only [PT.d]
          omega
      · rw [if_neg hk] at h
        injection h with h
        injection h with e1 e2
        subst e1
        dsimp only [PT.d]
        omega
theorem rAt_used : ∀ (f lv : Nat) (named : Bool) (n : Nat) (prev : Option Bytes) (p : Nat) (b : Bytes) {ms : List PT} {dp u : Nat}, rAt f lv named n prev p b = .ok (ms, dp, u) → u ≤ b.length
  | 0, _, _, _, _, p, b, _, _, _, h => by unfold rAt at h; cases h
  | f + 1, lv, named, 0, prev, p, b, ms, dp, u, h => by
    unfold rAt at h
    injection h with h
    injection h with e1 e2
    injection e2 with e2 e3
    omega
  | f + 1, lv, named, n + 1, prev, p, b, ms, dp, u, h => by
    unfold rAt at h
    cases en : nmAt named prev p b with
    | error e => rw [en] at h; cases h
    | ok x =>
      obtain ⟨k, l⟩ := x
      rw [en] at h
      have hn := nm_used en
      dsimp only at h
      cases ev : vAt f (lv + 1) (p + l + k) (b.drop (l + k)) with
      | error e => rw [ev] at h; cases h
      | ok y =>
        obtain ⟨t, u1⟩ := y
        rw [ev] at h
        have hv := vAt_used f _ _ _ ev
        rw [List.length_drop] at hv
        dsimp only at h
        cases er : rAt f lv named n (some ((b.drop l).take k)) (p + l + k + u1) (b.drop (l + k + u1)) with
        | error e => rw [er] at h; cases h
        | ok z =>
          obtain ⟨ms2, dp2, u2⟩ := z
          rw [er] at h
          have hr := rAt_used f lv _ _ _ _ _ er
          rw [List.length_drop] at hr
          injection h with h
          injection h with e1 e2
          injection e2 with e2 e3
          omega
end
mutual
theorem vAt_fuel : ∀ (f g lv p : Nat) (b : Bytes), 2 * b.length + 1 ≤ f → 2 * b.length + 1 ≤ g → vAt f lv p b = vAt g lv p b
  | 0, _, _, _, _, h, _ => by omega
  | _ + 1, 0, _, _, _, _, h => by omega
  | f + 1, g + 1, lv, p, b, hf, hg => by
    unfold vAt
    cases eh : headAt lv p b with
    | error e => rfl
    | ok x =>
      obtain ⟨k, n, i, u⟩ := x
      obtain ⟨h1, h2, _⟩ := head_used eh
      dsimp only
      by_cases hk : k = 5 ∨ k = 6
      · rw [if_pos hk, if_pos hk, rAt_fuel f g lv (decide (k = 6)) n none (p + u) (b.drop u) (by rw [List.length_drop]; omega) (by rw [List.length_drop]; omega)]
      · rw [if_neg hk, if_neg hk]
theorem rAt_fuel : ∀ (f g lv : Nat) (named : Bool) (n : Nat) (prev : Option Bytes) (p : Nat) (b : Bytes), 2 * b.length + 2 ≤ f → 2 * b.length + 2 ≤ g → rAt f lv named n prev p b = rAt g lv named n prev p b
  | 0, _, _, _, _, _, _, _, h, _ => by omega
  | _ + 1, 0, _, _, _, _, _, _, _, h => by omega
  | f + 1, g + 1, lv, named, 0, prev, p, b, hf, hg => by unfold rAt; rfl
  | f + 1, g + 1, lv, named, n + 1, prev, p, b, hf, hg => by
    unfold rAt
    cases en : nmAt named prev p b with
    | error e => rfl
    | ok x =>
      obtain ⟨k, l⟩ := x
      have hn := nm_used en
      dsimp only
      rw [vAt_fuel f g (lv + 1) (p + l + k) (b.drop (l + k)) (by rw [List.length_drop]; omega) (by rw [List.length_drop]; omega)]
      cases ev : vAt g (lv + 1) (p + l + k) (b.drop (l + k)) with
      | error e => rfl
      | ok y =>
        obtain ⟨t, u1⟩ := y
        have hv := vAt_used g _ _ _ ev
        rw [List.length_drop] at hv
        dsimp only
        rw [rAt_fuel f g lv named n (some ((b.drop l).take k)) (p + l + k + u1) (b.drop (l + k + u1)) (by rw [List.length_drop]; omega) (by rw [List.length_drop]; omega)]
end
/-! ### without fuel -/
def Vw (lv p : Nat) (b : Bytes) : Except Fault (PT × Nat) := vAt (2 * b.length + 1) lv p b
def Rw (lv : Nat) (named : Bool) (n : Nat) (prev : Option Bytes) (p : Nat) (b : Bytes) : Except Fault (List PT × Nat × Nat) := rAt (2 * b.length + 2) lv named n prev p b
theorem Vw_eq (lv p : Nat) (b : Bytes) : Vw lv p b = match headAt lv p b with
    | .error e => .error e
    | .ok (k, n, i, u) => if k = 5 ∨ k = 6 then (match Rw lv (decide (k = 6)) n none (p + u) (b.drop u) with
        | .error e => .error e
        | .ok (ms, dp, used) => .ok (.node ⟨k, p, p + i, p + u + used, n, dp + 1, 0, 0⟩ ms, u + used))
      else .ok (.node ⟨k, p, p + i, p + u, n, 1, 0, 0⟩ [], u) := by
  unfold Vw Rw
  conv => lhs; unfold vAt
  cases eh : headAt lv p b with
  | error e => rfl
  | ok x =>
    obtain ⟨k, n, i, u⟩ := x
    obtain ⟨h1, h2, _⟩ := head_used eh
    dsimp only
    rw [rAt_fuel (2 * b.length) (2 * (b.drop u).length + 2) lv (decide (k = 6)) n none (p + u) (b.drop u) (by rw [List.length_drop]; omega) (by omega)]
theorem Rw_zero (lv : Nat) (named : Bool) (prev : Option Bytes) (p : Nat) (b : Bytes) : Rw lv named 0 prev p b = .ok ([], 0, 0) := by
  unfold Rw rAt
  rfl
theorem Rw_succ (lv : Nat) (named : Bool) (n : Nat) (prev : Option Bytes) (p : Nat) (b : Bytes) : Rw lv named (n + 1) prev p b = match nmAt named prev p b with
    | .error e => .error e
    | .ok (k, l) => match Vw (lv + 1) (p + l + k) (b.drop (l + k)) with
      | .error e => .error e
      | .ok (t, u) => match Rw lv named n (some ((b.drop l).take k)) (p + l + k + u) (b.drop (l + k + u)) with
        | .error e => .error e
        | .ok (ms, dp, used) => .ok (t.nm (if named = true then p + l else 0) k :: ms, max t.d.depth dp, l + k + u + used) := by
  unfold Vw Rw
  conv => lhs; unfold rAt
  cases en : nmAt named prev p b with
  | error e => rfl
  | ok x =>
    obtain ⟨k, l⟩ := x
    have hn := nm_used en
    dsimp only
    rw [vAt_fuel (2 * b.length + 1) (2 * (b.drop (l + k)).length + 1) (lv + 1) (p + l + k) (b.drop (l + k)) (by rw [List.length_drop]; omega) (by omega)]
    cases ev : vAt (2 * (b.drop (l + k)).length + 1) (lv + 1) (p + l + k) (b.drop (l + k)) with
    | error e => rfl
    | ok y =>
      obtain ⟨t, u1⟩ := y
      have hv := vAt_used _ _ _ _ ev
      rw [List.length_drop] at hv
      dsimp only
      rw [rAt_fuel (2 * b.length + 1) (2 * (b.drop (l + k + u1)).length + 2) lv named n (some ((b.drop l).take k)) (p + l + k + u1) (b.drop (l + k + u1)) (by rw [List.length_drop]; omega) (by omega)]
end Pm

set_option linter.all false
set_option maxHeartbeats 1000000
namespace Pm
open Sw Hm
/-! ### bytes of UTF-8 -/
theorem follow_zero {lo hi x p y : Nat} {b r : Bytes} (h : follow 0 lo hi x p b = .ok (y, r)) : y = x ∧ r = b := by
  unfold follow at h
  injection h with h
  injection h with h1 h2
  exact ⟨h1.symm, h2.symm⟩
theorem follow_succ {k lo hi x p y : Nat} {b r : Bytes} (h : follow (k + 1) lo hi x p b = .ok (y, r)) : ∃ (c : UInt8) (b' : Bytes), b = c :: b' ∧ lo ≤ c.toNat ∧ c.toNat ≤ hi ∧ follow k 128 191 (64 * x + c.toNat % 64) (p + 1) b' = .ok (y, r) := by
  cases b with
  | nil => unfold follow at h; cases h
  | cons c b =>
    unfold follow at h
    by_cases hc : lo ≤ c.toNat ∧ c.toNat ≤ hi
    · rw [if_pos hc] at h
      exact ⟨c, b, rfl, hc.1, hc.2, h⟩
    · rw [if_neg hc] at h
      cases h
theorem cf_facts {c : Nat} (h : Um.cf c ≠ 0) : (Um.cf c = 1 ∧ 194 ≤ c ∧ c ≤ 223) ∨ (Um.cf c = 2 ∧ 224 ≤ c ∧ c ≤ 239) ∨ (Um.cf c = 3 ∧ 240 ≤ c ∧ c ≤ 244) := by
  unfold Um.cf at h ⊢
  by_cases h1 : 194 ≤ c ∧ c ≤ 223
  · rw [if_pos h1]; exact .inl ⟨rfl, h1⟩
  · rw [if_neg h1] at h ⊢
    by_cases h2 : 224 ≤ c ∧ c ≤ 239
    · rw [if_pos h2]; exact .inr (.inl ⟨rfl, h2⟩)
    · rw [if_neg h2] at h ⊢
      by_cases h3 : 240 ≤ c ∧ c ≤ 244
      · rw [if_pos h3]; exact .inr (.inr ⟨rfl, h3⟩)
      · rw [if_neg h3] at h
        exact absurd rfl h
theorem of_eq {n : Nat} {c : UInt8} (h : n = c.toNat) : UInt8.ofNat n = c := by rw [h, UInt8.ofNat_toNat]
theorem scalar_enc {p y : Nat} {b r : Bytes} (h : scalarAt p b = .ok (y, r)) : b = utf8One y ++ r ∧ isScalar y = true := by
  unfold scalarAt at h
  cases b with
  | nil => cases h
  | cons c0 b =>
    dsimp only at h
    have hl := Um.leads_eq c0.toNat c0.toNat_lt
    by_cases h1 : c0.toNat < 128
    · rw [if_pos h1] at hl
      rw [hl] at h
      obtain ⟨e1, e2⟩ := follow_zero h
      have e1 : y = c0.toNat := e1
      subst e1 e2
      unfold utf8One isScalar
      rw [if_pos (by omega), of_eq rfl, decide_eq_true (show c0.toNat < 55296 by omega)]
      exact ⟨rfl, rfl⟩
    · rw [if_neg h1] at hl
      by_cases h2 : Um.cf c0.toNat = 0
      · rw [if_pos h2] at hl
        rw [hl] at h
        cases h
      · rw [if_neg h2] at hl
        rw [hl] at h
        dsimp only at h
        have hsc : ∀ {y : Nat}, (y < 55296 ∨ (57344 ≤ y ∧ y ≤ 1114111)) → isScalar y = true := fun {y} q => by
          unfold isScalar
          rcases q with q | q
          · rw [decide_eq_true q]; rfl
          · rw [decide_eq_true q.1, decide_eq_true q.2]; simp
        rcases cf_facts h2 with ⟨f1, f2, f3⟩ | ⟨f1, f2, f3⟩ | ⟨f1, f2, f3⟩
        · rw [f1] at h
          obtain ⟨c1, b1, rfl, l1, u1, h⟩ := follow_succ h
          obtain ⟨e1, e2⟩ := follow_zero h
          subst e2
          have m1 : 128 ≤ c1.toNat ∧ c1.toNat ≤ 191 := by
            unfold Um.ls at l1
            unfold Um.hs at u1
            rw [if_neg (by omega), if_neg (by omega)] at l1 u1
            exact ⟨l1, u1⟩
          simp only [firstBits] at e1
          refine ⟨?_, hsc (by omega)⟩
          unfold utf8One
          rw [if_neg (by omega), if_pos (by omega), of_eq (show 0xC0 + y / 64 = c0.toNat by omega), of_eq (show 0x80 + y % 64 = c1.toNat by omega)]
          rfl
        · rw [f1] at h
          obtain ⟨c1, b1, rfl, l1, u1, h⟩ := follow_succ h
          obtain ⟨c2, b2, rfl, l2, u2, h⟩ := follow_succ h
          obtain ⟨e1, e2⟩ := follow_zero h
          subst e2
          have m1 : 128 ≤ c1.toNat ∧ c1.toNat ≤ 191 ∧ (c0.toNat = 224 → 160 ≤ c1.toNat) ∧ (c0.toNat = 237 → c1.toNat ≤ 159) := by
            unfold Um.ls at l1
            unfold Um.hs at u1
            by_cases q1 : c0.toNat = 224
            · rw [if_pos q1] at l1
              rw [if_neg (by omega), if_neg (by omega)] at u1
              omega
            · rw [if_neg q1, if_neg (by omega)] at l1
              by_cases q2 : c0.toNat = 237
              · rw [if_pos q2] at u1
                omega
              · rw [if_neg q2, if_neg (by omega)] at u1
                omega
          simp only [firstBits] at e1
          refine ⟨?_, hsc (by omega)⟩
          unfold utf8One
          rw [if_neg (by omega), if_neg (by omega), if_pos (by omega), of_eq (show 0xE0 + y / 4096 = c0.toNat by omega), of_eq (show 0x80 + y / 64 % 64 = c1.toNat by omega), of_eq (show 0x80 + y % 64 = c2.toNat by omega)]
          rfl
        · rw [f1] at h
          obtain ⟨c1, b1, rfl, l1, u1, h⟩ := follow_succ h
          obtain ⟨c2, b2, rfl, l2, u2, h⟩ := follow_succ h
          obtain ⟨c3, b3, rfl, l3, u3, h⟩ := follow_succ h
          obtain ⟨e1, e2⟩ := follow_zero h
          subst e2
          have m1 : 128 ≤ c1.toNat ∧ c1.toNat ≤ 191 ∧ (c0.toNat = 240 → 144 ≤ c1.toNat) ∧ (c0.toNat = 244 → c1.toNat ≤ 143) := by
            unfold Um.ls at l1
            unfold Um.hs at u1
            rw [if_neg (by omega)] at l1 u1
            by_cases q1 : c0.toNat = 240
            · rw [if_pos q1] at l1
              rw [if_neg (by omega)] at u1
              omega
            · rw [if_neg q1] at l1
              by_cases q2 : c0.toNat = 244
              · rw [if_pos q2] at u1
                omega
              · rw [if_neg q2] at u1
                omega
          simp only [firstBits] at e1
          refine ⟨?_, hsc (by omega)⟩
          unfold utf8One
          rw [if_neg (by omega), if_neg (by omega), if_neg (by omega), of_eq (show 0xF0 + y / 262144 = c0.toNat by omega), of_eq (show 0x80 + y / 4096 % 64 = c1.toNat by omega), of_eq (show 0x80 + y / 64 % 64 = c2.toNat by omega), of_eq (show 0x80 + y % 64 = c3.toNat by omega)]
          rfl
theorem scalars_enc : ∀ (f p : Nat) (b : Bytes) {t : List Nat}, scalarsFrom f p b = .ok t → utf8 t = b ∧ t.all isScalar = true
  | 0, p, [], t, h => by
    unfold scalarsFrom at h
    injection h with h
    subst h
    exact ⟨rfl, rfl⟩
  | f + 1, p, [], t, h => by
    unfold scalarsFrom at h
    injection h with h
    subst h
    exact ⟨rfl, rfl⟩
  | 0, p, c :: b, t, h => by unfold scalarsFrom at h; cases h
  | f + 1, p, c :: b, t, h => by
    unfold scalarsFrom at h
    cases e : scalarAt p (c :: b) with
    | error q => rw [e] at h; cases h
    | ok x =>
      obtain ⟨y, r⟩ := x
      rw [e] at h
      dsimp only at h
      obtain ⟨s1, s2⟩ := scalar_enc e
      cases e2 : scalarsFrom f (p + ((c :: b).length - r.length)) r with
      | error q => rw [e2] at h; cases h
      | ok l =>
        rw [e2] at h
        have h' : (Except.ok (y :: l) : Except Nat (List Nat)) = .ok t := h
        injection h' with h'
        subst h'
        obtain ⟨i1, i2⟩ := scalars_enc f _ r e2
        refine ⟨?_, by rw [List.all_cons, s2, i2]; rfl⟩
        unfold utf8 at i1 ⊢
        rw [List.flatMap_cons, i1, ← s1]
theorem text_enc {p : Nat} {b : Bytes} {t : List Nat} (h : textOf p b = .ok t) : utf8 t = b ∧ t.all isScalar = true := by
  unfold textOf scalars at h
  cases e : scalarsFrom b.length p b with
  | error q => rw [e] at h; cases h
  | ok l =>
    rw [e] at h
    injection h with h
    subst h
    exact scalars_enc _ _ _ e
/-! ### the place matters to faults alone -/
theorem follow_place : ∀ (k lo hi x p p' : Nat) (b : Bytes) {z : Nat × Bytes}, follow k lo hi x p b = .ok z → follow k lo hi x p' b = .ok z
  | 0, _, _, _, _, _, _, z, h => by unfold follow at h ⊢; exact h
  | k + 1, _, _, _, _, _, [], z, h => by unfold follow at h; cases h
  | k + 1, lo, hi, x, p, p', c :: b, z, h => by
    unfold follow at h ⊢
    by_cases hc : lo ≤ c.toNat ∧ c.toNat ≤ hi
    · rw [if_pos hc] at h ⊢
      exact follow_place k _ _ _ _ _ b h
    · rw [if_neg hc] at h; cases h
theorem scal_place : ∀ (f p p' : Nat) (b : Bytes) {t : List Nat}, scalarsFrom f p b = .ok t → scalarsFrom f p' b = .ok t
  | 0, p, p', [], t, h => by unfold scalarsFrom at h ⊢; exact h
  | f + 1, p, p', [], t, h => by unfold scalarsFrom at h ⊢; exact h
  | 0, p, p', c :: b, t, h => by unfold scalarsFrom at h; cases h
  | f + 1, p, p', c :: b, t, h => by
    unfold scalarsFrom at h ⊢
    cases e : scalarAt p (c :: b) with
    | error q => rw [e] at h; cases h
    | ok x =>
      have e' : scalarAt p' (c :: b) = .ok x := by
        unfold scalarAt at e ⊢
        dsimp only at e ⊢
        cases hl : leads c.toNat with
        | none => rw [hl] at e; cases e
        | some y =>
          obtain ⟨k, lo, hi⟩ := y
          rw [hl] at e
          exact follow_place _ _ _ _ _ _ _ e
      obtain ⟨y, r⟩ := x
      rw [e] at h
      rw [e']
      dsimp only at h ⊢
      cases e2 : scalarsFrom f (p + ((c :: b).length - r.length)) r with
      | error q => rw [e2] at h; cases h
      | ok l =>
        rw [e2] at h
        rw [scal_place f _ (p' + ((c :: b).length - r.length)) r e2]
        exact h
theorem text_scal {p : Nat} {b : Bytes} {t : List Nat} (h : textOf p b = .ok t) : scalars 0 b = .ok t := by
  unfold textOf scalars at h
  unfold scalars
  cases e : scalarsFrom b.length p b with
  | error q => rw [e] at h; cases h
  | ok l =>
    rw [e] at h
    injection h with h
    subst h
    exact scal_place _ _ _ _ e
/-! ### varying numbers, amounts -/
theorem vary_val : ∀ (h : Bytes) (c : UInt8), Vm.High h → c.toNat < 128 → (0 < h.length → c ≠ 0) → vary (Vm.val (h ++ [c])) = h ++ [c]
  | [], c, _, hc, _ => by
    have e : Vm.val ([] ++ [c]) = c.toNat := by
      show c.toNat % 128 + 128 * 0 = c.toNat
      omega
    rw [e]
    unfold vary
    rw [if_pos hc, of_eq rfl]
    rfl
  | x :: h, c, hh, hc, hz => by
    have ih := vary_val h c (fun d hd => hh d (by simp [hd])) hc fun _ => hz (by rw [List.length_cons]; omega)
    have hx0 := hh x (by simp)
    have e : Vm.val (x :: h ++ [c]) = x.toNat % 128 + 128 * Vm.val (h ++ [c]) := rfl
    have c0 : c ≠ 0 := hz (by rw [List.length_cons]; omega)
    have c1 : 0 < c.toNat := by
      apply Nat.pos_of_ne_zero
      intro z
      exact c0 (UInt8.toNat_inj.mp z)
    have pos : 0 < Vm.val (h ++ [c]) := by
      rw [Vm.val_snoc]
      have : 0 < c.toNat % 128 * 128 ^ h.length := Nat.mul_pos (by omega) (Nat.pow_pos (by decide))
      omega
    have hx : x.toNat % 128 < 128 := Nat.mod_lt _ (by decide)
    have hx2 := x.toNat_lt
    rw [e]
    unfold vary
    rw [if_neg (by omega)]
    have d : (x.toNat % 128 + 128 * Vm.val (h ++ [c])) / 128 = Vm.val (h ++ [c]) := by omega
    rw [d, ih, of_eq (show 128 + (x.toNat % 128 + 128 * Vm.val (h ++ [c])) % 128 = x.toNat by omega)]
    rfl
theorem vary_enc {p n l : Nat} {b : Bytes} (h : varyOf p b = .ok (n, l)) : vary n = b.take l := by
  unfold varyOf at h
  simp only at h
  generalize hh : ((b.take 5).takeWhile fun (c : UInt8) => decide (128 ≤ c.toNat)) = t at h
  by_cases h5 : t.length = 5
  · rw [if_pos h5] at h; cases h
  · rw [if_neg h5] at h
    split at h
    · cases h
    · rename_i c r hd
      split at h
      · cases h
      · rename_i hn
        split at h
        · cases h
        · injection h with h
          injection h with h1 h2
          subst h1 h2
          have ht : t.length ≤ 5 := by
            rw [← hh]
            exact Nat.le_trans (List.takeWhile_sublist _).length_le (by rw [List.length_take]; exact Nat.min_le_left _ _)
          have hb : b = t ++ c :: r := by
            have p1 : t <+: b.take 5 := by rw [← hh]; exact List.takeWhile_prefix _
            have p2 : t <+: b := p1.trans (List.take_prefix _ _)
            obtain ⟨s, hs⟩ := p2
            rw [← hs, List.drop_left] at hd
            rw [← hs, hd]
          have hhigh : Vm.High t := fun d hd => by
            rw [← hh] at hd
            exact of_decide_eq_true (List.all_eq_true.mp List.all_takeWhile d hd)
          have hc : c.toNat < 128 := by
            apply Nat.lt_of_not_le
            intro hle
            have e : b.take 5 = t ++ c :: r.take (4 - t.length) := by
              rw [hb, List.take_append, List.take_of_length_le (by omega), show 5 - t.length = (4 - t.length) + 1 by omega, List.take_succ_cons]
            rw [e, List.takeWhile_append] at hh
            split at hh
            · rename_i q
              rw [List.takeWhile_cons, if_pos (decide_eq_true hle)] at hh
              have := congrArg List.length hh
              simp at this
            · rename_i q
              apply q
              rw [hh]
          have e2 : b.take (t.length + 1) = t ++ [c] := by
            rw [hb, List.take_append, List.take_of_length_le (by omega), show t.length + 1 - t.length = 1 by omega]
            rfl
          rw [e2]
          exact vary_val t c hhigh hc fun z => fun z2 => hn ⟨z, z2⟩
theorem vary_back {p n l : Nat} {b : Bytes} (h : varyOf p b = .ok (n, l)) : (vary n).length = l := by
  have u := Vm.vary_used h
  rw [vary_enc h, List.length_take]
  omega
theorem le_succ (k n : Nat) : le (k + 1) n = UInt8.ofNat (n % 256) :: le k (n / 256) := by
  unfold le
  rw [List.range_succ_eq_map, List.map_cons, List.map_map]
  congr 1
  · rw [Nat.pow_zero, Nat.div_one]
  · apply List.map_congr_left
    intro i _
    show UInt8.ofNat (n / 256 ^ (i + 1) % 256) = UInt8.ofNat (n / 256 / 256 ^ i % 256)
    rw [Nat.pow_succ, Nat.mul_comm, ← Nat.div_div_eq_div_mul]
theorem le_ofLe : ∀ (m : Bytes), le m.length (ofLe m) = m
  | [] => rfl
  | c :: m => by
    have e : ofLe (c :: m) = c.toNat + 256 * ofLe m := rfl
    have c2 := c.toNat_lt
    rw [List.length_cons, le_succ, e, of_eq (show (c.toNat + 256 * ofLe m) % 256 = c.toNat by omega), show (c.toNat + 256 * ofLe m) / 256 = ofLe m by omega, le_ofLe m]
theorem ofLe_lt : ∀ (m : Bytes), ofLe m < 256 ^ m.length
  | [] => by decide
  | c :: m => by
    have e : ofLe (c :: m) = c.toNat + 256 * ofLe m := rfl
    have c2 := c.toNat_lt
    have ih := ofLe_lt m
    rw [e, List.length_cons, Nat.pow_succ]
    omega
theorem le_len (k n : Nat) : (le k n).length = k := by
  unfold le
  rw [List.length_map, List.length_range]
theorem amount_len : ∀ (m : Bytes), m.getLast? ≠ some 0 → amountLength (ofLe m) = m.length ∧ (m ≠ [] → 0 < ofLe m)
  | [], _ => by
    refine ⟨?_, fun z => absurd rfl z⟩
    show amountLength 0 = 0
    unfold amountLength
    rfl
  | [c], h => by
    have c0 : c ≠ 0 := fun z => h (by rw [z]; rfl)
    have c1 : 0 < c.toNat := Nat.pos_of_ne_zero fun z => c0 (UInt8.toNat_inj.mp z)
    have c2 := c.toNat_lt
    have e : ofLe [c] = c.toNat := by
      show c.toNat + 256 * 0 = c.toNat
      omega
    rw [e]
    refine ⟨?_, fun _ => c1⟩
    unfold amountLength
    rw [if_neg (by omega), show c.toNat / 256 = 0 by omega]
    unfold amountLength
    rfl
  | c :: d :: m, h => by
    have ih := amount_len (d :: m) (by rw [List.getLast?_cons_cons] at h; exact h)
    have e : ofLe (c :: d :: m) = c.toNat + 256 * ofLe (d :: m) := rfl
    have pos := ih.2 (by simp)
    have c2 := c.toNat_lt
    rw [e]
    refine ⟨?_, fun _ => by omega⟩
    unfold amountLength
    rw [if_neg (by omega), show (c.toNat + 256 * ofLe (d :: m)) / 256 = ofLe (d :: m) by omega, ih.1]
    rfl
/-- the varying number of a number -/
def told (z : Int) : Nat := 2 * amountLength z.natAbs + if z < 0 then 1 else 0
theorem num_told {z : Nat} {m : Bytes} (hm : m.length = z / 2) (h0 : ¬ (m.getLast? = some 0 ∨ z = 1)) :
    told (if z % 2 = 1 then -(ofLe m : Int) else (ofLe m : Int)) = z ∧ (if z % 2 = 1 then -(ofLe m : Int) else (ofLe m : Int)).natAbs = ofLe m ∧ amountLength (ofLe m) = m.length := by
  have a := amount_len m fun q => h0 (.inl q)
  have na : (if z % 2 = 1 then -(ofLe m : Int) else (ofLe m : Int)).natAbs = ofLe m := by split <;> omega
  refine ⟨?_, na, a.1⟩
  unfold told
  rw [na, a.1, hm]
  by_cases hz : z % 2 = 1
  · have hne : m ≠ [] := fun q => by
      rw [q] at hm
      have : z / 2 = 0 := hm.symm
      exact h0 (.inr (by omega))
    have := a.2 hne
    rw [if_pos hz, if_pos (by omega)]
    omega
  · rw [if_neg hz, if_neg (by omega)]
    omega
end Pm

set_option linter.all false
set_option maxHeartbeats 1000000
namespace Pm
open Sw Hm
theorem row_eq (f lv : Nat) (named : Bool) (n : Nat) (prev : Option Bytes) (p : Nat) (b : Bytes) : rowAt (f + 1) lv named (n + 1) prev p b = match nmAt named prev p b with
    | .error e => .error e
    | .ok (k, l) => match valueAt f (lv + 1) (p + l + k) (b.drop (l + k)) with
      | .error e => .error e
      | .ok (v, u) => match rowAt f lv named n (some ((b.drop l).take k)) (p + l + k + u) (b.drop (l + k + u)) with
        | .error e => .error e
        | .ok (m, u2) => .ok (.cons ((b.drop l).take k) v m, l + k + u + u2) := by
  have tail : ∀ (name : Bytes) (l : Nat), (Except.bind (valueAt f (lv + 1) (p + l) (b.drop l)) fun x => Except.bind (rowAt f lv named n (some name) (p + l + x.2) (b.drop (l + x.2))) fun y => (Except.ok (Row.cons name x.1 y.1, l + x.2 + y.2) : Except Fault (Row × Nat)))
      = match valueAt f (lv + 1) (p + l) (b.drop l) with
      | .error e => .error e
      | .ok (v, u) => match rowAt f lv named n (some name) (p + l + u) (b.drop (l + u)) with
        | .error e => .error e
        | .ok (m, u2) => .ok (.cons name v m, l + u + u2) := fun name l => by
    cases ev : valueAt f (lv + 1) (p + l) (b.drop l) with
    | error e => rfl
    | ok x =>
      obtain ⟨v, u⟩ := x
      simp only [Except.bind]
      cases er : rowAt f lv named n (some name) (p + l + u) (b.drop (l + u)) with
      | error e => rfl
      | ok y => rfl
  conv => lhs; unfold rowAt
  unfold nmAt
  cases named with
  | false =>
    have t0 := tail [] 0
    exact t0
  | true =>
    unfold Hm.nameAt
    cases ev : varyOf p b with
    | error e => rfl
    | ok x =>
      obtain ⟨k, l⟩ := x
      simp only [bind, Except.bind, if_true]
      by_cases hk : k = 0 ∨ NAME < k
      · simp only [if_pos hk]
      · simp only [if_neg hk]
        cases es : someOf (p + l) k (b.drop l) with
        | error e => rfl
        | ok m =>
          simp only
          obtain ⟨_, em⟩ := some_ok es
          subst em
          cases et : textOf (p + l) ((b.drop l).take k) with
          | error e => rfl
          | ok t =>
            have t0 := tail ((b.drop l).take k) (l + k)
            have e : p + l + k = p + (l + k) := Nat.add_assoc ..
            cases prev with
            | none =>
              simp only [Bool.true_eq_false, if_false]
              rw [e]
              exact t0
            | some q0 =>
              simp only
              by_cases hb : bytesBefore q0 ((b.drop l).take k) = false
              · simp only [if_pos hb]
              · simp only [if_neg hb]
                rw [e]
                exact t0
/-! ### what was read is what stands there -/
def VG (lv : Nat) (b : Bytes) (v : Value) (n : Nat) : Prop := v.enc = b.take n ∧ n ≤ b.length ∧ v.plain = true ∧ v.deep + lv ≤ 65
def riseBehind (prev : Option Bytes) (l : List Bytes) : Bool := match prev with
  | some q => rising (q :: l)
  | none => rising l
def RG (lv : Nat) (named : Bool) (n : Nat) (prev : Option Bytes) (b : Bytes) (m : Row) (u : Nat) : Prop := m.enc named = b.take u ∧ u ≤ b.length ∧ m.length = n ∧ m.plain = true ∧ (lv ≤ 64 → m.deep + lv ≤ 64) ∧
  (named = false → m.names.all (fun (x : Bytes) => x == []) = true) ∧ (named = true → m.names.all nameOk = true ∧ riseBehind prev m.names = true)
theorem take_cons1 {k : UInt8} {r : Bytes} {n : Nat} : (k :: r).take (1 + n) = k :: r.take n := by rw [Nat.add_comm 1 n]; rfl
theorem nm_enc {named : Bool} {prev : Option Bytes} {p k l : Nat} {b : Bytes} (h : nmAt named prev p b = .ok (k, l)) :
    ((b.drop l).take k).length = k ∧ l + k ≤ b.length ∧ (if named = true then vary ((b.drop l).take k).length ++ (b.drop l).take k else []) = b.take (l + k) ∧ (named = true → l = (vary k).length ∧ 1 ≤ k ∧ nameOk ((b.drop l).take k) = true ∧ (∀ q, prev = some q → bytesBefore q ((b.drop l).take k) = true)) ∧ (named = false → k = 0 ∧ l = 0) := by
  have u := nm_used h
  have hl : ((b.drop l).take k).length = k := by rw [List.length_take, List.length_drop]; omega
  refine ⟨hl, u.1, ?_⟩
  unfold nmAt at h
  cases named with
  | false =>
    rw [if_neg Bool.false_ne_true] at h
    injection h with h
    injection h with h1 h2
    subst h1 h2
    exact ⟨rfl, fun z => Bool.noConfusion z, fun _ => ⟨rfl, rfl⟩⟩
  | true =>
    rw [if_pos rfl] at h
    have nu := name_used h
    unfold Hm.nameAt at h
    cases ev : varyOf p b with
    | error e => rw [ev] at h; cases h
    | ok x =>
      obtain ⟨z, l'⟩ := x
      rw [ev] at h
      dsimp only at h
      split at h
      · cases h
      · cases es : someOf (p + l') z (b.drop l') with
        | error e => rw [es] at h; cases h
        | ok m =>
          rw [es] at h
          obtain ⟨s1, s2⟩ := some_ok es
          dsimp only at h
          cases et : textOf (p + l') m with
          | error e => rw [et] at h; cases h
          | ok t =>
            rw [et] at h
            dsimp only at h
            have fin : (Except.ok (z, l') : Except Fault (Nat × Nat)) = .ok (k, l) → (∀ q, prev = some q → bytesBefore q m = true) → (if true = true then vary ((b.drop l).take k).length ++ (b.drop l).take k else []) = b.take (l + k) ∧ (true = true → l = (vary k).length ∧ 1 ≤ k ∧ nameOk ((b.drop l).take k) = true ∧ (∀ q, prev = some q → bytesBefore q ((b.drop l).take k) = true)) ∧ (true = false → k = 0 ∧ l = 0) := fun h hq => by
              injection h with h
              injection h with h1 h2
              subst h1 h2
              subst s2
              refine ⟨?_, fun _ => ⟨(vary_back ev).symm, nu.2.1, ?_, hq⟩, fun z => Bool.noConfusion z⟩
              · rw [if_pos rfl, hl, vary_enc ev, List.take_add]
              · unfold nameOk
                rw [hl, text_scal et, decide_eq_true nu.2.1, decide_eq_true (show z ≤ NAME from nu.2.2.1)]
                rfl
            cases prev with
            | none => exact fin h fun q z => by cases z
            | some q0 =>
              dsimp only at h
              by_cases hb : bytesBefore q0 m = false
              · rw [if_pos hb] at h
                cases h
              · rw [if_neg hb] at h
                refine fin h fun q z => ?_
                injection z with z
                subst z
                cases hq : bytesBefore q0 m with
                | true => rfl
                | false => exact absurd hq hb
mutual
theorem v_enc : ∀ (f lv p : Nat) (b : Bytes) {v : Value} {n : Nat}, valueAt f lv p b = .ok (v, n) → VG lv b v n
  | 0, lv, p, b, v, n, h => by unfold valueAt at h; cases h
  | f + 1, lv, p, [], v, n, h => by unfold valueAt at h; cases h
  | f + 1, lv, p, k :: r, v, n, h => by
    unfold valueAt at h
    simp only at h
    by_cases h8 : 8 < k.toNat
    · rw [if_pos h8] at h; cases h
    · rw [if_neg h8] at h
      by_cases hd : DEEP < lv
      · rw [if_pos hd] at h; cases h
      · rw [if_neg hd] at h
        have hd' : lv ≤ 64 := Nat.le_of_not_lt hd
        have hk : k.toNat = 0 ∨ k.toNat = 1 ∨ k.toNat = 2 ∨ k.toNat = 3 ∨ k.toNat = 4 ∨ k.toNat = 5 ∨ k.toNat = 6 ∨ k.toNat = 7 ∨ k.toNat = 8 := by omega
        have ke : ∀ {c : Nat}, k.toNat = c → UInt8.ofNat c = k := fun q => of_eq q.symm
        have d1 : ∀ {w : Value}, w.deep = 1 → w.deep + lv ≤ 65 := fun q => by rw [q]; omega
        rcases hk with hk | hk | hk | hk | hk | hk | hk | hk | hk
        · simp only [hk] at h
          cases h
          rw [← ke hk]
          exact ⟨rfl, by rw [List.length_cons]; omega, rfl, d1 rfl⟩
        · simp only [hk] at h
          cases h
          rw [← ke hk]
          exact ⟨rfl, by rw [List.length_cons]; omega, rfl, d1 rfl⟩
        · simp only [hk] at h
          cases ev : varyOf (p + 1) r with
          | error e => rw [ev] at h; cases h
          | ok x =>
            obtain ⟨z, l⟩ := x
            rw [ev] at h
            have vu := Vm.vary_used ev
            simp only [bind, Except.bind] at h
            by_cases hz : NUMBER < z / 2
            · rw [if_pos hz] at h; cases h
            · rw [if_neg hz] at h
              cases es : someOf (p + 1 + l) (z / 2) (r.drop l) with
              | error e => rw [es] at h; cases h
              | ok m =>
                rw [es] at h
                simp only at h
                obtain ⟨s1, s2⟩ := some_ok es
                rw [List.length_drop] at s1
                by_cases hm : m.getLast? = some 0 ∨ z = 1
                · rw [if_pos hm] at h; cases h
                · rw [if_neg hm] at h
                  injection h with h
                  injection h with h1 h2
                  subst h1 h2
                  have ml : m.length = z / 2 := by rw [s2, List.length_take, List.length_drop]; omega
                  obtain ⟨t1, t2, t3⟩ := num_told ml hm
                  refine ⟨?_, by rw [List.length_cons]; omega, ?_, d1 rfl⟩
                  · show 2 :: (vary (told _) ++ le (amountLength (Int.natAbs _)) (Int.natAbs _)) = _
                    rw [t1, t2, t3, le_ofLe, vary_enc ev, Nat.add_assoc, take_cons1, List.take_add, ← s2, ← ke hk]
                    rfl
                  · have key : ∀ N : Nat, m.length ≤ N → ofLe m < 256 ^ N := fun N q => Nat.lt_of_lt_of_le (ofLe_lt m) (Nat.pow_le_pow_right (by decide) q)
                    unfold Value.plain
                    rw [t2]
                    exact decide_eq_true (key NUMBER (by rw [ml]; exact Nat.le_of_not_lt hz))
        · simp only [hk] at h
          cases ev : varyOf (p + 1) r with
          | error e => rw [ev] at h; cases h
          | ok x =>
            obtain ⟨z, l⟩ := x
            rw [ev] at h
            have vu := Vm.vary_used ev
            simp only [bind, Except.bind] at h
            cases es : someOf (p + 1 + l) z (r.drop l) with
            | error e => rw [es] at h; cases h
            | ok m =>
              rw [es] at h
              obtain ⟨s1, s2⟩ := some_ok es
              rw [List.length_drop] at s1
              injection h with h
              injection h with h1 h2
              subst h1 h2
              have hl : m.length = z := by rw [s2, List.length_take, List.length_drop]; omega
              refine ⟨?_, by rw [List.length_cons]; omega, rfl, d1 rfl⟩
              show 3 :: (vary m.length ++ m) = _
              rw [hl, vary_enc ev, Nat.add_assoc, take_cons1, List.take_add, ← s2, ← ke hk]
              rfl
        · simp only [hk] at h
          cases ev : varyOf (p + 1) r with
          | error e => rw [ev] at h; cases h
          | ok x =>
            obtain ⟨z, l⟩ := x
            rw [ev] at h
            have vu := Vm.vary_used ev
            simp only [bind, Except.bind] at h
            cases es : someOf (p + 1 + l) z (r.drop l) with
            | error e => rw [es] at h; cases h
            | ok m =>
              rw [es] at h
              simp only at h
              obtain ⟨s1, s2⟩ := some_ok es
              rw [List.length_drop] at s1
              cases et : textOf (p + 1 + l) m with
              | error e => rw [et] at h; cases h
              | ok t =>
                rw [et] at h
                injection h with h
                injection h with h1 h2
                subst h1 h2
                have hl : m.length = z := by rw [s2, List.length_take, List.length_drop]; omega
                obtain ⟨t1, t2⟩ := text_enc et
                refine ⟨?_, by rw [List.length_cons]; omega, t2, d1 rfl⟩
                show 4 :: (vary (utf8 t).length ++ utf8 t) = _
                rw [t1, hl, vary_enc ev, Nat.add_assoc, take_cons1, List.take_add, ← s2, ← ke hk]
                rfl
        · simp only [hk] at h
          cases ev : varyOf (p + 1) r with
          | error e => rw [ev] at h; cases h
          | ok x =>
            obtain ⟨z, l⟩ := x
            rw [ev] at h
            have vu := Vm.vary_used ev
            simp only [bind, Except.bind] at h
            cases er : rowAt f lv false z none (p + 1 + l) (r.drop l) with
            | error e => rw [er] at h; cases h
            | ok y =>
              obtain ⟨m, u⟩ := y
              rw [er] at h
              injection h with h
              injection h with h1 h2
              subst h1 h2
              obtain ⟨e1, e2, e3, e4, e5, e6, e7⟩ := r_enc f lv false z none _ _ er
              rw [List.length_drop] at e2
              refine ⟨?_, by rw [List.length_cons]; omega, ?_, by have := e5 hd'; show m.deep + 1 + lv ≤ 65; omega⟩
              · show 5 :: (vary m.length ++ m.enc false) = _
                rw [e3, e1, vary_enc ev, Nat.add_assoc, take_cons1, List.take_add, ← ke hk]
                rfl
              · show (m.plain && m.names.all _) = true
                rw [e4, e6 rfl]
                rfl
        · simp only [hk] at h
          cases ev : varyOf (p + 1) r with
          | error e => rw [ev] at h; cases h
          | ok x =>
            obtain ⟨z, l⟩ := x
            rw [ev] at h
            have vu := Vm.vary_used ev
            simp only [bind, Except.bind] at h
            cases er : rowAt f lv true z none (p + 1 + l) (r.drop l) with
            | error e => rw [er] at h; cases h
            | ok y =>
              obtain ⟨m, u⟩ := y
              rw [er] at h
              injection h with h
              injection h with h1 h2
              subst h1 h2
              obtain ⟨e1, e2, e3, e4, e5, e6, e7⟩ := r_enc f lv true z none _ _ er
              rw [List.length_drop] at e2
              refine ⟨?_, by rw [List.length_cons]; omega, ?_, by have := e5 hd'; show m.deep + 1 + lv ≤ 65; omega⟩
              · show 6 :: (vary m.length ++ m.enc true) = _
                rw [e3, e1, vary_enc ev, Nat.add_assoc, take_cons1, List.take_add, ← ke hk]
                rfl
              · show (m.plain && (m.names.all _ && rising m.names)) = true
                rw [e4, (e7 rfl).1, show rising m.names = true from (e7 rfl).2]
                rfl
        · simp only [hk] at h
          cases es : someOf (p + 1) 8 r with
          | error e => rw [es] at h; cases h
          | ok m =>
            rw [es] at h
            obtain ⟨s1, s2⟩ := some_ok es
            injection h with h
            injection h with h1 h2
            subst h1 h2
            have ml : m.length = 8 := by rw [s2, List.length_take]; omega
            have lt := ofLe_lt m
            rw [ml] at lt
            have lt : ofLe m < 18446744073709551616 := lt
            have e1 : (signed64 (ofLe m) % ((2 ^ 64 : Nat) : Int)).toNat = ofLe m := by
              show (signed64 (ofLe m) % 18446744073709551616).toNat = ofLe m
              unfold signed64
              by_cases q : ofLe m < 2 ^ 63
              · rw [if_pos q]; omega
              · rw [if_neg q]
                show (((ofLe m : Int) - 18446744073709551616) % 18446744073709551616).toNat = ofLe m
                omega
            refine ⟨?_, by rw [List.length_cons]; omega, ?_, d1 rfl⟩
            · show 7 :: le 8 _ = _
              rw [e1, ← ml, le_ofLe, show (9 : Nat) = 1 + 8 from rfl, take_cons1, ← s2, ← ke hk]
              rfl
            · show (decide _ && decide _) = true
              unfold signed64
              have p63 : (2 ^ 63 : Nat) = 9223372036854775808 := rfl
              have p64 : (2 ^ 64 : Nat) = 18446744073709551616 := rfl
              by_cases q : ofLe m < 2 ^ 63
              · rw [if_pos q, decide_eq_true (by omega), decide_eq_true (by omega)]
                rfl
              · rw [if_neg q, decide_eq_true (by omega), decide_eq_true (by omega)]
                rfl
        · simp only [hk] at h
          cases es : someOf (p + 1) 32 r with
          | error e => rw [es] at h; cases h
          | ok m =>
            rw [es] at h
            obtain ⟨s1, s2⟩ := some_ok es
            injection h with h
            injection h with h1 h2
            subst h1 h2
            have ml : m.length = 32 := by rw [s2, List.length_take]; omega
            refine ⟨?_, by rw [List.length_cons]; omega, ?_, d1 rfl⟩
            · show 8 :: m = _
              rw [show (33 : Nat) = 1 + 32 from rfl, take_cons1, ← s2, ← ke hk]
              rfl
            · show (m.length == 32) = true
              rw [ml]
              rfl
theorem r_enc : ∀ (f lv : Nat) (named : Bool) (n : Nat) (prev : Option Bytes) (p : Nat) (b : Bytes) {m : Row} {u : Nat}, rowAt f lv named n prev p b = .ok (m, u) → RG lv named n prev b m u
  | 0, lv, named, n, prev, p, b, m, u, h => by unfold rowAt at h; cases h
  | f + 1, lv, named, 0, prev, p, b, m, u, h => by
    unfold rowAt at h
    cases h
    refine ⟨by rw [List.take_zero]; rfl, Nat.zero_le _, rfl, rfl, fun z => by show 0 + lv ≤ 64; omega, fun _ => rfl, fun _ => ⟨rfl, ?_⟩⟩
    cases prev <;> rfl
  | f + 1, lv, named, n + 1, prev, p, b, m, u, h => by
    rw [row_eq] at h
    cases en : nmAt named prev p b with
    | error e => rw [en] at h; cases h
    | ok x =>
      obtain ⟨k, l⟩ := x
      rw [en] at h
      simp only at h
      obtain ⟨n1, n2, n3, n4, n5⟩ := nm_enc en
      cases ev : valueAt f (lv + 1) (p + l + k) (b.drop (l + k)) with
      | error e => rw [ev] at h; cases h
      | ok y =>
        obtain ⟨v, u1⟩ := y
        rw [ev] at h
        simp only at h
        obtain ⟨e1, e2, e3, e4⟩ := v_enc f _ _ _ ev
        rw [List.length_drop] at e2
        cases er : rowAt f lv named n (some ((b.drop l).take k)) (p + l + k + u1) (b.drop (l + k + u1)) with
        | error e => rw [er] at h; cases h
        | ok z =>
          obtain ⟨m', u2⟩ := z
          rw [er] at h
          injection h with h
          injection h with h1 h2
          subst h1 h2
          obtain ⟨r1, r2, r3, r4, r5, r6, r7⟩ := r_enc f lv named n _ _ _ er
          rw [List.length_drop] at r2
          refine ⟨?_, by omega, by show m'.length + 1 = n + 1; rw [r3], by show (v.plain && m'.plain) = true; rw [e3, r4]; rfl, fun z => ?_, fun z => ?_, fun z => ?_⟩
          · show (if named = true then vary ((b.drop l).take k).length ++ (b.drop l).take k else []) ++ (v.enc ++ m'.enc named) = _
            rw [n3, e1, r1, Nat.add_assoc (l + k), List.take_add (i := l + k), List.take_add (i := u1), List.drop_drop]
          · have := r5 z
            show max v.deep m'.deep + lv ≤ 64
            omega
          · show ((b.drop l).take k :: m'.names).all _ = true
            rw [List.all_cons, r6 z, (n5 z).1, List.take_zero]
            rfl
          · obtain ⟨a1, a2, a3, a4⟩ := n4 z
            obtain ⟨b1, b2⟩ := r7 z
            refine ⟨?_, ?_⟩
            · show ((b.drop l).take k :: m'.names).all _ = true
              rw [List.all_cons, b1, a3]
              rfl
            · show riseBehind prev ((b.drop l).take k :: m'.names) = true
              cases prev with
              | none => exact b2
              | some q =>
                show (bytesBefore q ((b.drop l).take k) && rising ((b.drop l).take k :: m'.names)) = true
                rw [a4 q rfl]
                exact b2
end
/-! ### the part of a value -/
/-- how many bytes stand before a value's inner ones -/
def ioff : Value → Nat
  | .num z => 1 + (vary (told z)).length
  | .bytes b => 1 + (vary b.length).length
  | .text t => 1 + (vary (utf8 t).length).length
  | .list m => 1 + (vary m.length).length
  | .rec_ m => 1 + (vary m.length).length
  | _ => 1
def noff (named : Bool) (n : Bytes) : Nat := if named = true then (vary n.length).length + n.length else 0
def pdOf (v : Value) (p np nl : Nat) : PD := ⟨v.kind, p, p + ioff v, p + v.enc.length, Values.countOf v, v.deep, np, nl⟩
mutual
def trV : Value → Nat → Nat → Nat → PT
  | .list m, p, np, nl => .node (pdOf (.list m) p np nl) (trR m false (p + ioff (.list m)))
  | .rec_ m, p, np, nl => .node (pdOf (.rec_ m) p np nl) (trR m true (p + ioff (.rec_ m)))
  | .no, p, np, nl => .node (pdOf .no p np nl) []
  | .yes, p, np, nl => .node (pdOf .yes p np nl) []
  | .num z, p, np, nl => .node (pdOf (.num z) p np nl) []
  | .bytes b, p, np, nl => .node (pdOf (.bytes b) p np nl) []
  | .text t, p, np, nl => .node (pdOf (.text t) p np nl) []
  | .moment z, p, np, nl => .node (pdOf (.moment z) p np nl) []
  | .id b, p, np, nl => .node (pdOf (.id b) p np nl) []
def trR : Row → Bool → Nat → List PT
  | .nil, _, _ => []
  | .cons n v r, named, p => trV v (p + noff named n) (if named = true then p + (vary n.length).length else 0) n.length :: trR r named (p + noff named n + v.enc.length)
end
/-- a value's members' parts -/
def trM : Value → Nat → List PT
  | .list m, p => trR m false (p + ioff (.list m))
  | .rec_ m, p => trR m true (p + ioff (.rec_ m))
  | _, _ => []
theorem trV_eq (v : Value) (p np nl : Nat) : trV v p np nl = .node (pdOf v p np nl) (trM v p) := by
  cases v <;> (unfold trV; rfl)
theorem trR_cons (n : Bytes) (v : Value) (r : Row) (named : Bool) (p : Nat) : trR (.cons n v r) named p = trV v (p + noff named n) (if named = true then p + (vary n.length).length else 0) n.length :: trR r named (p + noff named n + v.enc.length) := by
  rw [trR]
theorem trR_nil (named : Bool) (p : Nat) : trR .nil named p = [] := by
  rw [trR]
theorem trV_nm (v : Value) (p np nl np' nl' : Nat) : (trV v p np nl).nm np' nl' = trV v p np' nl' := by
  rw [trV_eq, trV_eq]
  rfl
mutual
theorem v_rel : ∀ (f lv p : Nat) (b : Bytes), match valueAt f lv p b with
    | .error e => vAt f lv p b = .error e
    | .ok (v, n) => vAt f lv p b = .ok (trV v p 0 0, n)
  | 0, lv, p, b => by
    unfold valueAt vAt
    rfl
  | f + 1, lv, p, [] => by
    unfold valueAt vAt headAt
    rfl
  | f + 1, lv, p, k :: r => by
    have hve := @v_enc (f + 1) lv p (k :: r)
    revert hve
    unfold valueAt vAt headAt
    simp only
    by_cases h8 : 8 < k.toNat
    · rw [if_pos h8, if_pos h8]
      intro _
      rfl
    · rw [if_neg h8, if_neg h8]
      by_cases hd : DEEP < lv
      · rw [if_pos hd, if_pos hd]
        intro _
        rfl
      · rw [if_neg hd, if_neg hd]
        have hk : k.toNat = 0 ∨ k.toNat = 1 ∨ k.toNat = 2 ∨ k.toNat = 3 ∨ k.toNat = 4 ∨ k.toNat = 5 ∨ k.toNat = 6 ∨ k.toNat = 7 ∨ k.toNat = 8 := by omega
        rcases hk with hk | hk | hk | hk | hk | hk | hk | hk | hk
        · simp only [hk]
          intro _
          rfl
        · simp only [hk]
          intro _
          rfl
        · simp only [hk]
          unfold numAt
          cases ev : varyOf (p + 1) r with
          | error e => intro _; rfl
          | ok x =>
            obtain ⟨z, l⟩ := x
            simp only [bind, Except.bind]
            by_cases hz : NUMBER < z / 2
            · rw [if_pos hz, if_pos hz]
              intro _
              rfl
            · rw [if_neg hz, if_neg hz]
              cases es : someOf (p + 1 + l) (z / 2) (r.drop l) with
              | error e => intro _; rfl
              | ok m =>
                simp only
                obtain ⟨s1, s2⟩ := some_ok es
                by_cases hm : m.getLast? = some 0 ∨ z = 1
                · rw [if_pos hm, if_pos hm]
                  intro _
                  rfl
                · rw [if_neg hm, if_neg hm]
                  intro hve
                  obtain ⟨v1, v2, _⟩ := hve rfl
                  have ml : m.length = z / 2 := by rw [s2, List.length_take]; omega
                  obtain ⟨t1, t2, t3⟩ := num_told ml hm
                  have el := congrArg List.length v1
                  rw [List.length_take, Nat.min_eq_left v2] at el
                  have hpd : pdOf (.num (if z % 2 = 1 then -(ofLe m : Int) else (ofLe m : Int))) p 0 0 = ⟨2, p, p + (1 + l), p + (1 + l + z / 2), 0, 1, 0, 0⟩ := by
                    show (⟨2, p, p + (1 + (vary (told _)).length), p + (Value.enc _).length, 0, 1, 0, 0⟩ : PD) = _
                    rw [t1, vary_back ev, el]
                  simp only
                  rw [trV_eq, hpd]
                  rfl
        · simp only [hk]
          unfold strAt
          cases ev : varyOf (p + 1) r with
          | error e => intro _; rfl
          | ok x =>
            obtain ⟨z, l⟩ := x
            simp only [bind, Except.bind]
            cases es : someOf (p + 1 + l) z (r.drop l) with
            | error e => intro _; rfl
            | ok m =>
              obtain ⟨s1, s2⟩ := some_ok es
              intro hve
              obtain ⟨v1, v2, _⟩ := hve rfl
              have el := congrArg List.length v1
              rw [List.length_take, Nat.min_eq_left v2] at el
              have ml : m.length = z := by rw [s2, List.length_take]; omega
              have hpd : pdOf (.bytes m) p 0 0 = ⟨3, p, p + (1 + l), p + (1 + l + z), z, 1, 0, 0⟩ := by
                show (⟨3, p, p + (1 + (vary m.length).length), p + (Value.enc _).length, m.length, 1, 0, 0⟩ : PD) = _
                rw [el, ml, vary_back ev]
              simp only
              rw [trV_eq, hpd]
              rfl
        · simp only [hk]
          unfold strAt
          cases ev : varyOf (p + 1) r with
          | error e => intro _; rfl
          | ok x =>
            obtain ⟨z, l⟩ := x
            simp only [bind, Except.bind]
            cases es : someOf (p + 1 + l) z (r.drop l) with
            | error e => intro _; rfl
            | ok m =>
              obtain ⟨s1, s2⟩ := some_ok es
              simp only
              cases et : textOf (p + 1 + l) m with
              | error e => simp only [et]; intro _; rfl
              | ok t =>
                obtain ⟨t1, _⟩ := text_enc et
                simp only [et]
                intro hve
                obtain ⟨v1, v2, _⟩ := hve rfl
                have el := congrArg List.length v1
                rw [List.length_take, Nat.min_eq_left v2] at el
                have ml : (utf8 t).length = z := by rw [t1, s2, List.length_take]; omega
                have hpd : pdOf (.text t) p 0 0 = ⟨4, p, p + (1 + l), p + (1 + l + z), z, 1, 0, 0⟩ := by
                  show (⟨4, p, p + (1 + (vary (utf8 t).length).length), p + (Value.enc _).length, (utf8 t).length, 1, 0, 0⟩ : PD) = _
                  rw [el, ml, vary_back ev]
                rw [trV_eq, hpd]
                rfl
        · simp only [hk]
          cases ev : varyOf (p + 1) r with
          | error e => intro _; rfl
          | ok x =>
            obtain ⟨z, l⟩ := x
            simp only [bind, Except.bind]
            have ih := r_rel f lv false z none (p + 1 + l) (r.drop l)
            have ed : (k :: r).drop (1 + l) = r.drop l := by rw [Nat.add_comm 1 l]; rfl
            cases er : rowAt f lv false z none (p + 1 + l) (r.drop l) with
            | error e =>
              rw [er] at ih
              have ih : rAt f lv false z none (p + 1 + l) (r.drop l) = .error e := ih
              intro _
              show (match rAt f lv false z none (p + (1 + l)) ((k :: r).drop (1 + l)) with
                | .error e => .error e
                | .ok (ms, dp, used) => .ok (.node ⟨5, p, p + (1 + l), p + (1 + l) + used, z, dp + 1, 0, 0⟩ ms, 1 + l + used) : Except Fault (PT × Nat)) = _
              rw [ed, ← Nat.add_assoc, ih]
            | ok y =>
              obtain ⟨m, u⟩ := y
              rw [er] at ih
              have ih : rAt f lv false z none (p + 1 + l) (r.drop l) = .ok (trR m false (p + 1 + l), m.deep, u) := ih
              intro hve
              obtain ⟨v1, v2, _⟩ := hve rfl
              have el := congrArg List.length v1
              rw [List.length_take, Nat.min_eq_left v2] at el
              obtain ⟨_, _, e3, _⟩ := r_enc f lv false z none _ _ er
              show (match rAt f lv false z none (p + (1 + l)) ((k :: r).drop (1 + l)) with
                | .error e => .error e
                | .ok (ms, dp, used) => .ok (.node ⟨5, p, p + (1 + l), p + (1 + l) + used, z, dp + 1, 0, 0⟩ ms, 1 + l + used) : Except Fault (PT × Nat)) = _
              have hpd : pdOf (.list m) p 0 0 = ⟨5, p, p + 1 + l, p + 1 + l + u, z, m.deep + 1, 0, 0⟩ := by
                show (⟨5, p, p + (1 + (vary m.length).length), p + (Value.enc _).length, m.length, m.deep + 1, 0, 0⟩ : PD) = _
                rw [el, e3, vary_back ev, ← Nat.add_assoc, ← Nat.add_assoc, ← Nat.add_assoc]
              have htm : trM (.list m) p = trR m false (p + 1 + l) := by
                show trR m false (p + (1 + (vary m.length).length)) = _
                rw [e3, vary_back ev, ← Nat.add_assoc]
              rw [ed, ← Nat.add_assoc, ih, trV_eq, hpd, htm]
        · simp only [hk]
          cases ev : varyOf (p + 1) r with
          | error e => intro _; rfl
          | ok x =>
            obtain ⟨z, l⟩ := x
            simp only [bind, Except.bind]
            have ih := r_rel f lv true z none (p + 1 + l) (r.drop l)
            have ed : (k :: r).drop (1 + l) = r.drop l := by rw [Nat.add_comm 1 l]; rfl
            cases er : rowAt f lv true z none (p + 1 + l) (r.drop l) with
            | error e =>
              rw [er] at ih
              have ih : rAt f lv true z none (p + 1 + l) (r.drop l) = .error e := ih
              intro _
              show (match rAt f lv true z none (p + (1 + l)) ((k :: r).drop (1 + l)) with
                | .error e => .error e
                | .ok (ms, dp, used) => .ok (.node ⟨6, p, p + (1 + l), p + (1 + l) + used, z, dp + 1, 0, 0⟩ ms, 1 + l + used) : Except Fault (PT × Nat)) = _
              rw [ed, ← Nat.add_assoc, ih]
            | ok y =>
              obtain ⟨m, u⟩ := y
              rw [er] at ih
              have ih : rAt f lv true z none (p + 1 + l) (r.drop l) = .ok (trR m true (p + 1 + l), m.deep, u) := ih
              intro hve
              obtain ⟨v1, v2, _⟩ := hve rfl
              have el := congrArg List.length v1
              rw [List.length_take, Nat.min_eq_left v2] at el
              obtain ⟨_, _, e3, _⟩ := r_enc f lv true z none _ _ er
              show (match rAt f lv true z none (p + (1 + l)) ((k :: r).drop (1 + l)) with
                | .error e => .error e
                | .ok (ms, dp, used) => .ok (.node ⟨6, p, p + (1 + l), p + (1 + l) + used, z, dp + 1, 0, 0⟩ ms, 1 + l + used) : Except Fault (PT × Nat)) = _
              have hpd : pdOf (.rec_ m) p 0 0 = ⟨6, p, p + 1 + l, p + 1 + l + u, z, m.deep + 1, 0, 0⟩ := by
                show (⟨6, p, p + (1 + (vary m.length).length), p + (Value.enc _).length, m.length, m.deep + 1, 0, 0⟩ : PD) = _
                rw [el, e3, vary_back ev, ← Nat.add_assoc, ← Nat.add_assoc, ← Nat.add_assoc]
              have htm : trM (.rec_ m) p = trR m true (p + 1 + l) := by
                show trR m true (p + (1 + (vary m.length).length)) = _
                rw [e3, vary_back ev, ← Nat.add_assoc]
              rw [ed, ← Nat.add_assoc, ih, trV_eq, hpd, htm]
        · simp only [hk]
          cases es : someOf (p + 1) 8 r with
          | error e => intro _; rfl
          | ok m =>
            intro hve
            obtain ⟨v1, v2, _⟩ := hve rfl
            have el := congrArg List.length v1
            rw [List.length_take, Nat.min_eq_left v2] at el
            have hpd : pdOf (.moment (signed64 (ofLe m))) p 0 0 = ⟨7, p, p + 1, p + 9, 0, 1, 0, 0⟩ := by
              show (⟨7, p, p + 1, p + (Value.enc _).length, 0, 1, 0, 0⟩ : PD) = _
              rw [el]
            show _ = Except.ok (trV (.moment (signed64 (ofLe m))) p 0 0, 9)
            rw [trV_eq, hpd]
            rfl
        · simp only [hk]
          cases es : someOf (p + 1) 32 r with
          | error e => intro _; rfl
          | ok m =>
            intro hve
            obtain ⟨v1, v2, _⟩ := hve rfl
            have el := congrArg List.length v1
            rw [List.length_take, Nat.min_eq_left v2] at el
            have hpd : pdOf (.id m) p 0 0 = ⟨8, p, p + 1, p + 33, 0, 1, 0, 0⟩ := by
              show (⟨8, p, p + 1, p + (Value.enc _).length, 0, 1, 0, 0⟩ : PD) = _
              rw [el]
            show _ = Except.ok (trV (.id m) p 0 0, 33)
            rw [trV_eq, hpd]
            rfl
theorem r_rel : ∀ (f lv : Nat) (named : Bool) (n : Nat) (prev : Option Bytes) (p : Nat) (b : Bytes), match rowAt f lv named n prev p b with
    | .error e => rAt f lv named n prev p b = .error e
    | .ok (m, u) => rAt f lv named n prev p b = .ok (trR m named p, m.deep, u)
  | 0, lv, named, n, prev, p, b => by
    unfold rowAt rAt
    rfl
  | f + 1, lv, named, 0, prev, p, b => by
    unfold rowAt rAt
    rfl
  | f + 1, lv, named, n + 1, prev, p, b => by
    rw [row_eq]
    unfold rAt
    cases en : nmAt named prev p b with
    | error e => rfl
    | ok x =>
      obtain ⟨k, l⟩ := x
      simp only
      obtain ⟨n1, n2, n3, n4, n5⟩ := nm_enc en
      have ih := v_rel f (lv + 1) (p + l + k) (b.drop (l + k))
      cases ev : valueAt f (lv + 1) (p + l + k) (b.drop (l + k)) with
      | error e =>
        rw [ev] at ih
        have ih : vAt f (lv + 1) (p + l + k) (b.drop (l + k)) = .error e := ih
        simp only [ih]
      | ok y =>
        obtain ⟨v, u⟩ := y
        rw [ev] at ih
        have ih : vAt f (lv + 1) (p + l + k) (b.drop (l + k)) = .ok (trV v (p + l + k) 0 0, u) := ih
        simp only [ih]
        obtain ⟨e1, e2, _⟩ := v_enc f _ _ _ ev
        have el := congrArg List.length e1
        rw [List.length_take, Nat.min_eq_left e2] at el
        have ih2 := r_rel f lv named n (some ((b.drop l).take k)) (p + l + k + u) (b.drop (l + k + u))
        cases er : rowAt f lv named n (some ((b.drop l).take k)) (p + l + k + u) (b.drop (l + k + u)) with
        | error e =>
          rw [er] at ih2
          have ih2 : rAt f lv named n (some ((b.drop l).take k)) (p + l + k + u) (b.drop (l + k + u)) = .error e := ih2
          simp only [ih2]
        | ok z =>
          obtain ⟨m, u2⟩ := z
          rw [er] at ih2
          have ih2 : rAt f lv named n (some ((b.drop l).take k)) (p + l + k + u) (b.drop (l + k + u)) = .ok (trR m named (p + l + k + u), m.deep, u2) := ih2
          simp only [ih2]
          have hd : (trV v (p + l + k) 0 0).d.depth = v.deep := by rw [trV_eq]; rfl
          have no : noff named ((b.drop l).take k) = l + k := by
            unfold noff
            cases named with
            | true => rw [if_pos rfl, n1, ← (n4 rfl).1]
            | false =>
              obtain ⟨q1, q2⟩ := n5 rfl
              rw [if_neg Bool.false_ne_true, q1, q2]
          have np : (if named = true then p + l else 0) = (if named = true then p + (vary k).length else 0) := by
            cases named with
            | true => rw [if_pos rfl, if_pos rfl, (n4 rfl).1]
            | false => rfl
          rw [trV_nm, hd, trR_cons, n1, el, no, np, ← Nat.add_assoc p l k]
          rfl
end
end Pm

set_option linter.all false
set_option maxHeartbeats 1000000
namespace Pm
open Sw Hm
def isRec (d : PD) : Bool := decide (d.kind = 6)
/-- how many members a part has in all -/
def need (d : PD) : Nat := if d.kind = 5 ∨ d.kind = 6 then d.size else 0
def prevOf (bs : Bytes) (mem : List PT) : Option Bytes := match mem.getLast? with
  | none => none
  | some m => some ((bs.drop m.d.np).take m.d.nl)
/-- what comes in the end, of parts that are begun, each within the next -/
def fin (bs : Bytes) : List (PD × List PT) → PD → List PT → Nat → Except Fault (PT × Nat)
  | [], d, mem, p => match Rw 1 (isRec d) (need d - mem.length) (prevOf bs mem) p (bs.drop p) with
    | .error e => .error e
    | .ok (ms, dp, u) => .ok (.node { d with fin := p + u, depth := max d.depth (dp + 1) } (mem ++ ms), p + u)
  | (dh, mh) :: rest, d, mem, p => match Rw (rest.length + 2) (isRec d) (need d - mem.length) (prevOf bs mem) p (bs.drop p) with
    | .error e => .error e
    | .ok (ms, dp, u) => fin bs rest { dh with depth := max dh.depth (max d.depth (dp + 1) + 1) } (mh ++ [.node { d with fin := p + u, depth := max d.depth (dp + 1) } (mem ++ ms)]) (p + u)
def up (bs : Bytes) (rest : List (PD × List PT)) (d : PD) (mem : List PT) (p : Nat) : Except Fault (PT × Nat) := match rest with
  | [] => .ok (.node d mem, p)
  | (dh, mh) :: r => fin bs r { dh with depth := max dh.depth (d.depth + 1) } (mh ++ [.node d mem]) p
theorem fin_eq (bs : Bytes) (rest : List (PD × List PT)) (d : PD) (mem : List PT) (p : Nat) : fin bs rest d mem p = match Rw (rest.length + 1) (isRec d) (need d - mem.length) (prevOf bs mem) p (bs.drop p) with
    | .error e => .error e
    | .ok (ms, dp, u) => up bs rest { d with fin := p + u, depth := max d.depth (dp + 1) } (mem ++ ms) (p + u) := by
  cases rest with
  | nil => rfl
  | cons x r =>
    obtain ⟨dh, mh⟩ := x
    rfl
theorem fin_pop (bs : Bytes) (rest : List (PD × List PT)) (d : PD) (mem : List PT) (p : Nat) (h : need d ≤ mem.length) (hd : 1 ≤ d.depth) : fin bs rest d mem p = up bs rest { d with fin := p } mem p := by
  rw [fin_eq, show need d - mem.length = 0 by omega, Rw_zero]
  have e : max d.depth (0 + 1) = d.depth := by omega
  simp only [Nat.add_zero, List.append_nil, e]
/-- how a member begins: its name's length and varying number's, its kind, size, inner place, bytes -/
def memAt (named : Bool) (prev : Option Bytes) (lv p : Nat) (b : Bytes) : Except Fault (Nat × Nat × Nat × Nat × Nat × Nat) := match nmAt named prev p b with
  | .error e => .error e
  | .ok (k, l) => match headAt lv (p + l + k) (b.drop (l + k)) with
    | .error e => .error e
    | .ok (kd, n, i, u) => .ok (k, l, kd, n, i, u)
def newD (named : Bool) (p : Nat) (x : Nat × Nat × Nat × Nat × Nat × Nat) : PD := ⟨x.2.2.1, p + x.2.1 + x.1, p + x.2.1 + x.1 + x.2.2.2.2.1, p + x.2.1 + x.1, x.2.2.2.1, 1, if named = true then p + x.2.1 else 0, x.1⟩
theorem fin_push (bs : Bytes) (rest : List (PD × List PT)) (d : PD) (mem : List PT) (p : Nat) (h : mem.length < need d) : fin bs rest d mem p = match memAt (isRec d) (prevOf bs mem) (rest.length + 2) p (bs.drop p) with
    | .error e => .error e
    | .ok x => fin bs ((d, mem) :: rest) (newD (isRec d) p x) [] (p + x.2.1 + x.1 + x.2.2.2.2.2) := by
  obtain ⟨n, hn⟩ : ∃ n, need d - mem.length = n + 1 := ⟨need d - mem.length - 1, by omega⟩
  rw [fin_eq, hn, Rw_succ]
  unfold memAt
  cases en : nmAt (isRec d) (prevOf bs mem) p (bs.drop p) with
  | error e => rfl
  | ok x =>
    obtain ⟨k, l⟩ := x
    dsimp only
    rw [Vw_eq]
    cases eh : headAt (rest.length + 1 + 1) (p + l + k) ((bs.drop p).drop (l + k)) with
    | error e => rfl
    | ok y =>
      obtain ⟨kd, sz, io, u⟩ := y
      dsimp only
      have hd2 : (bs.drop p).drop (l + k) = bs.drop (p + l + k) := by rw [List.drop_drop, Nat.add_assoc]
      have hd3 : ∀ z, (bs.drop p).drop (l + k + z) = bs.drop (p + l + k + z) := fun z => by
        rw [List.drop_drop]
        congr 1
        omega
      have hprev : ∀ c : PT, c.d.np = (if isRec d = true then p + l else 0) → c.d.nl = k → prevOf bs (mem ++ [c]) = some (((bs.drop p).drop l).take k) := fun c h1 h2 => by
        unfold prevOf
        rw [List.getLast?_append]
        simp only [List.getLast?_singleton, Option.some_or]
        rw [h1, h2]
        cases hr : isRec d with
        | true => rw [if_pos rfl, List.drop_drop]
        | false =>
          unfold nmAt at en
          rw [hr, if_neg Bool.false_ne_true] at en
          injection en with en
          injection en with en1 en2
          rw [← en1]
          simp
      have upeq : ∀ (c : PD) (cm : List PT) (used : Nat), c.np = (if isRec d = true then p + l else 0) → c.nl = k → 1 ≤ c.depth →
          (match (match Rw (rest.length + 1) (isRec d) n (some (((bs.drop p).drop l).take k)) (p + l + k + used) ((bs.drop p).drop (l + k + used)) with
            | .error e => .error e
            | .ok (ms, dp, u2) => .ok (.node c cm :: ms, max c.depth dp, l + k + used + u2) : Except Fault (List PT × Nat × Nat)) with
          | .error e => .error e
          | .ok (ms, dp, u) => up bs rest { d with fin := p + u, depth := max d.depth (dp + 1) } (mem ++ ms) (p + u)) = up bs ((d, mem) :: rest) c cm (p + l + k + used) := fun c cm used h1 h2 h3 => by
        show _ = fin bs rest { d with depth := max d.depth (c.depth + 1) } (mem ++ [.node c cm]) (p + l + k + used)
        rw [fin_eq, hd3, hprev (.node c cm) h1 h2]
        have e1 : need { d with depth := max d.depth (c.depth + 1) } - (mem ++ [PT.node c cm]).length = n := by
          rw [List.length_append, List.length_singleton]
          show need d - (mem.length + 1) = n
          omega
        have e2 : isRec { d with depth := max d.depth (c.depth + 1) } = isRec d := rfl
        rw [e1, e2]
        cases er : Rw (rest.length + 1) (isRec d) n (some (((bs.drop p).drop l).take k)) (p + l + k + used) (bs.drop (p + l + k + used)) with
        | error e => rfl
        | ok z =>
          obtain ⟨ms, dp, u2⟩ := z
          dsimp only
          have a1 : p + (l + k + used + u2) = p + l + k + used + u2 := by omega
          have a2 : max d.depth (max c.depth dp + 1) = max (max d.depth (c.depth + 1)) (dp + 1) := by omega
          have a3 : mem ++ PT.node c cm :: ms = mem ++ [PT.node c cm] ++ ms := by simp
          rw [a1, a2, a3]
      rw [fin_eq]
      have e1 : need (newD (isRec d) p (k, l, kd, sz, io, u)) - ([] : List PT).length = if kd = 5 ∨ kd = 6 then sz else 0 := rfl
      have e2 : isRec (newD (isRec d) p (k, l, kd, sz, io, u)) = decide (kd = 6) := rfl
      have e3 : ((d, mem) :: rest).length + 1 = rest.length + 2 := rfl
      have e4 : prevOf bs [] = none := rfl
      rw [e1, e2, e3, e4]
      by_cases hk : kd = 5 ∨ kd = 6
      · rw [if_pos hk, if_pos hk, hd2, List.drop_drop]
        cases er : Rw (rest.length + 2) (decide (kd = 6)) sz none (p + l + k + u) (bs.drop (p + l + k + u)) with
        | error e => rfl
        | ok z =>
          obtain ⟨ms, dp, used⟩ := z
          dsimp only
          refine (upeq { (⟨kd, p + l + k, p + l + k + io, p + l + k + u + used, sz, dp + 1, 0, 0⟩ : PD) with np := if isRec d = true then p + l else 0, nl := k } ms (u + used) rfl rfl (by show 1 ≤ dp + 1; omega)).trans ?_
          have a1 : p + l + k + (u + used) = p + l + k + u + used := by omega
          have a2 : dp + 1 = max 1 (dp + 1) := by omega
          show up bs ((d, mem) :: rest) ⟨kd, p + l + k, p + l + k + io, p + l + k + u + used, sz, dp + 1, if isRec d = true then p + l else 0, k⟩ ms (p + l + k + (u + used)) =
            up bs ((d, mem) :: rest) ⟨kd, p + l + k, p + l + k + io, p + l + k + u + used, sz, max 1 (dp + 1), if isRec d = true then p + l else 0, k⟩ ([] ++ ms) (p + l + k + u + used)
          rw [← a2, a1]
          rfl
      · rw [if_neg hk, if_neg hk, Rw_zero]
        dsimp only
        exact upeq { (⟨kd, p + l + k, p + l + k + io, p + l + k + u, sz, 1, 0, 0⟩ : PD) with np := if isRec d = true then p + l else 0, nl := k } [] u rfl rfl (Nat.le_refl 1)
/-- the whole -/
def wholeAt (bs : Bytes) : Except Fault PT := match headAt 1 0 bs with
  | .error e => .error e
  | .ok (k, n, i, u) => match fin bs [] ⟨k, 0, i, 0, n, 1, 0, 0⟩ [] u with
    | .error e => .error e
    | .ok (t, p) => if p < bs.length then .error ⟨8, p⟩ else .ok t
theorem whole_eq (bs : Bytes) : wholeAt bs = match Vw 1 0 bs with
    | .error e => .error e
    | .ok (t, n) => if n < bs.length then .error ⟨8, n⟩ else .ok t := by
  unfold wholeAt
  rw [Vw_eq]
  cases eh : headAt 1 0 bs with
  | error e => rfl
  | ok x =>
    obtain ⟨k, n, i, u⟩ := x
    dsimp only
    rw [fin_eq]
    have e1 : need (⟨k, 0, i, 0, n, 1, 0, 0⟩ : PD) - ([] : List PT).length = if k = 5 ∨ k = 6 then n else 0 := rfl
    have e2 : isRec (⟨k, 0, i, 0, n, 1, 0, 0⟩ : PD) = decide (k = 6) := rfl
    have e4 : prevOf bs [] = none := rfl
    rw [e1, e2, e4]
    by_cases hk : k = 5 ∨ k = 6
    · rw [if_pos hk, if_pos hk]
      simp only [Nat.zero_add, List.length_nil]
      cases er : Rw 1 (decide (k = 6)) n none u (bs.drop u) with
      | error e => rfl
      | ok z =>
        obtain ⟨ms, dp, used⟩ := z
        have a2 : max 1 (dp + 1) = dp + 1 := by omega
        simp only [up, a2, List.nil_append]
    · rw [if_neg hk, if_neg hk, Rw_zero]
      simp only [up, Nat.zero_add, Nat.add_zero, List.append_nil, Nat.max_self]
/-- the whole, as the document tells it -/
theorem whole_rel (bs : Bytes) : match decode bs with
    | .error e => wholeAt bs = .error e
    | .ok v => wholeAt bs = .ok (trV v 0 0 0) ∧ v.enc = bs ∧ v.plain = true ∧ v.deep ≤ 64 := by
  have h := v_rel (2 * bs.length + 4) 1 0 bs
  have hf := vAt_fuel (2 * bs.length + 4) (2 * bs.length + 1) 1 0 bs (by omega) (by omega)
  rw [hf] at h
  rw [whole_eq]
  unfold Vw decode
  cases ev : valueAt (2 * bs.length + 4) 1 0 bs with
  | error e =>
    rw [ev] at h
    have h : vAt (2 * bs.length + 1) 1 0 bs = .error e := h
    rw [h]
  | ok x =>
    obtain ⟨v, n⟩ := x
    rw [ev] at h
    have h : vAt (2 * bs.length + 1) 1 0 bs = .ok (trV v 0 0 0, n) := h
    obtain ⟨g1, g2, g3, g4⟩ := v_enc _ _ _ _ ev
    rw [h]
    dsimp only
    by_cases hn : n < bs.length
    · rw [if_pos hn, if_pos hn]
    · rw [if_neg hn, if_neg hn]
      refine ⟨rfl, ?_, g3, by omega⟩
      rw [g1, List.take_of_length_le (by omega)]
end Pm

set_option linter.all false
set_option maxHeartbeats 1000000
namespace Pm
open Sw Hm
theorem trR_get : ∀ (m : Row) (named : Bool) (p i : Nat), (trR m named p)[i]? = (m.get? i).map fun (x : Bytes × Value) => trV x.2 (p + m.before named i) (if named = true then p + m.before named i - x.1.length else 0) x.1.length
  | .nil, named, p, i => by
    rw [trR_nil]
    rfl
  | .cons n v r, named, p, 0 => by
    rw [trR_cons]
    show some (trV v (p + noff named n) (if named = true then p + (vary n.length).length else 0) n.length) = some (trV v (p + noff named n) (if named = true then p + noff named n - n.length else 0) n.length)
    congr 2
    cases named with
    | false => rfl
    | true =>
      unfold noff
      rw [if_pos rfl, if_pos rfl, if_pos rfl]
      omega
  | .cons n v r, named, p, i + 1 => by
    rw [trR_cons]
    show (trR r named (p + noff named n + v.enc.length))[i]? = (r.get? i).map _
    rw [trR_get r named _ i]
    have e : ∀ z : Nat, p + noff named n + v.enc.length + z = p + (noff named n + v.enc.length + z) := fun z => by omega
    rw [e]
    rfl
theorem trR_len : ∀ (m : Row) (named : Bool) (p : Nat), (trR m named p).length = m.length
  | .nil, named, p => by rw [trR_nil]; rfl
  | .cons n v r, named, p => by
    rw [trR_cons, List.length_cons, trR_len r]
    rfl
/-- the members, and whether they're named -/
def rowOf : Value → Row
  | .list m => m
  | .rec_ m => m
  | _ => .nil
def namedOf : Value → Bool
  | .rec_ _ => true
  | _ => false
theorem trM_eq (v : Value) (p : Nat) : trM v p = trR (rowOf v) (namedOf v) (p + ioff v) := by
  cases v <;> first | rfl | (show [] = trR .nil _ _; rw [trR_nil])
theorem member_eq (v : Value) (i : Nat) : v.member i = (rowOf v).get? i := by
  cases v <;> rfl
/-- where a member stands -/
def mplace (v : Value) (p i : Nat) : Nat := p + ioff v + (rowOf v).before (namedOf v) i
theorem trM_get (v : Value) (p i : Nat) : (trM v p)[i]? = (v.member i).map fun (x : Bytes × Value) => trV x.2 (mplace v p i) (if namedOf v = true then mplace v p i - x.1.length else 0) x.1.length := by
  rw [trM_eq, trR_get, member_eq]
  rfl
theorem trM_len (v : Value) (p : Nat) : (trM v p).length = (rowOf v).length := by
  rw [trM_eq, trR_len]
theorem names_get : ∀ (m : Row) (i : Nat) {n : Bytes} {v : Value}, m.get? i = some (n, v) → n ∈ m.names
  | .nil, i, n, v, h => by cases h
  | .cons n0 v0 r, 0, n, v, h => by
    have h : some (n0, v0) = some (n, v) := h
    injection h with h
    injection h with h1 h2
    subst h1
    exact List.mem_cons_self
  | .cons n0 v0 r, i + 1, n, v, h => List.mem_cons_of_mem _ (names_get r i h)
/-- of a value as it may be: a list's members have no names, a record's have -/
theorem name_of {v : Value} (hp : v.plain = true) {i : Nat} {n : Bytes} {w : Value} (h : v.member i = some (n, w)) : (namedOf v = false → n = []) ∧ (namedOf v = true → n ≠ []) := by
  cases v with
  | list m =>
    refine ⟨fun _ => ?_, fun z => Bool.noConfusion z⟩
    have hp : (m.plain && m.names.all fun (n : Bytes) => n == []) = true := hp
    rw [Bool.and_eq_true] at hp
    have := List.all_eq_true.mp hp.2 n (names_get m i h)
    simpa using this
  | rec_ m =>
    refine ⟨fun z => Bool.noConfusion z, fun _ => ?_⟩
    have hp : (m.plain && (m.names.all nameOk && rising m.names)) = true := hp
    rw [Bool.and_eq_true, Bool.and_eq_true] at hp
    have := List.all_eq_true.mp hp.2.1 n (names_get m i h)
    intro z
    rw [z] at this
    simp [nameOk] at this
  | _ => cases h
end Pm

set_option linter.all false
set_option maxHeartbeats 1000000
namespace Pm
open Sw Hm
/-! ### a value's bytes within a row -/
def At (bs : Bytes) (p : Nat) (v : Value) : Prop := v.enc <+: bs.drop p
theorem enc_pos (v : Value) : 1 ≤ v.enc.length := by
  cases v <;> (unfold Value.enc; simp)
theorem At.le {bs : Bytes} {p : Nat} {v : Value} (h : At bs p v) : p + v.enc.length ≤ bs.length := by
  have h1 := List.IsPrefix.length_le h
  rw [List.length_drop] at h1
  have := enc_pos v
  omega
/-- a value's bytes behind its kind and its varying number -/
def inner : Value → Bytes
  | .no => []
  | .yes => []
  | .num z => le (amountLength z.natAbs) z.natAbs
  | .bytes b => b
  | .text t => utf8 t
  | .list m => m.enc false
  | .rec_ m => m.enc true
  | .moment z => le 8 (z % ((2 ^ 64 : Nat) : Int)).toNat
  | .id b => b
def vhead : Value → Bytes
  | .no => [0]
  | .yes => [1]
  | .num z => 2 :: vary (told z)
  | .bytes b => 3 :: vary b.length
  | .text t => 4 :: vary (utf8 t).length
  | .list m => 5 :: vary m.length
  | .rec_ m => 6 :: vary m.length
  | .moment _ => [7]
  | .id _ => [8]
theorem enc_split (v : Value) : v.enc = vhead v ++ inner v := by
  cases v <;> (unfold Value.enc; rfl)
theorem head_len (v : Value) : (vhead v).length = ioff v := by
  cases v <;> (unfold vhead ioff; simp [Nat.add_comm])
theorem At.inner {bs : Bytes} {p : Nat} {v : Value} (h : At bs p v) : (bs.drop (p + ioff v)).take (p + v.enc.length - (p + ioff v)) = Pm.inner v ∧ ioff v ≤ v.enc.length := by
  obtain ⟨r, hr⟩ := h
  have hs := enc_split v
  have hl := head_len v
  have hlen : v.enc.length = ioff v + (Pm.inner v).length := by rw [hs, List.length_append, hl]
  refine ⟨?_, by omega⟩
  rw [← List.drop_drop, ← hr, hs, List.append_assoc, ← hl, List.drop_left, ← hs, show p + v.enc.length - (p + (vhead v).length) = (Pm.inner v).length by omega, List.take_left]
theorem enc_get : ∀ (m : Row) (named : Bool) (i : Nat) {n : Bytes} {w : Value}, m.get? i = some (n, w) → ∃ pre post, m.enc named = pre ++ (w.enc ++ post) ∧ pre.length = m.before named i ∧ (named = true → ∃ pre', pre = pre' ++ n)
  | .nil, named, i, n, w, h => by cases h
  | .cons n0 v r, named, 0, n, w, h => by
    have h : some (n0, v) = some (n, w) := h
    injection h with h
    injection h with h1 h2
    subst h1 h2
    refine ⟨if named = true then vary n0.length ++ n0 else [], r.enc named, rfl, ?_, fun z => ⟨vary n0.length, by rw [if_pos z]⟩⟩
    show _ = if named = true then (vary n0.length).length + n0.length else 0
    cases named with
    | true => rw [if_pos rfl, if_pos rfl, List.length_append]
    | false => rfl
  | .cons n0 v r, named, i + 1, n, w, h => by
    obtain ⟨pre, post, e1, e2, e3⟩ := enc_get r named i h
    refine ⟨(if named = true then vary n0.length ++ n0 else []) ++ v.enc ++ pre, post, ?_, ?_, fun z => ?_⟩
    · show (if named = true then vary n0.length ++ n0 else []) ++ (v.enc ++ r.enc named) = _
      rw [e1]
      simp only [List.append_assoc]
    · show _ = (if named = true then (vary n0.length).length + n0.length else 0) + v.enc.length + r.before named i
      rw [List.length_append, List.length_append, e2]
      cases named with
      | true => rw [if_pos rfl, if_pos rfl, List.length_append]
      | false => rfl
    · obtain ⟨pre', e⟩ := e3 z
      exact ⟨(if named = true then vary n0.length ++ n0 else []) ++ v.enc ++ pre', by rw [e]; simp only [List.append_assoc]⟩
theorem At.mem {bs : Bytes} {p : Nat} {v : Value} (h : At bs p v) {i : Nat} {n : Bytes} {w : Value} (hm : v.member i = some (n, w)) :
    At bs (mplace v p i) w ∧ (namedOf v = true → n.length ≤ mplace v p i ∧ (bs.drop (mplace v p i - n.length)).take n.length = n) := by
  rw [member_eq] at hm
  obtain ⟨pre, post, e1, e2, e3⟩ := enc_get (rowOf v) (namedOf v) i hm
  have hi : Pm.inner v = (rowOf v).enc (namedOf v) := by
    cases v <;> first | rfl | (cases hm)
  obtain ⟨r, hr⟩ := h
  have hs := enc_split v
  have hl := head_len v
  have key : bs.drop (p + ioff v) = pre ++ (w.enc ++ post) ++ r := by
    rw [← List.drop_drop, ← hr, hs, List.append_assoc, ← hl, List.drop_left, hi, e1]
  have k2 : bs.drop (mplace v p i) = w.enc ++ (post ++ r) := by
    unfold mplace
    rw [← List.drop_drop, key, ← e2, List.append_assoc, List.drop_left, List.append_assoc]
  refine ⟨⟨post ++ r, k2.symm⟩, fun z => ?_⟩
  obtain ⟨pre', e⟩ := e3 z
  have e2' : pre'.length + n.length = (rowOf v).before (namedOf v) i := by rw [← e2, e, List.length_append]
  refine ⟨by unfold mplace; omega, ?_⟩
  have k3 : mplace v p i - n.length = p + ioff v + pre'.length := by unfold mplace; omega
  rw [k3, ← List.drop_drop, key, e, List.append_assoc, List.append_assoc, List.drop_left, List.take_left]
theorem plain_get : ∀ (m : Row) (i : Nat) {n : Bytes} {w : Value}, m.plain = true → m.get? i = some (n, w) → w.plain = true
  | .nil, i, n, w, _, h => by cases h
  | .cons n0 v r, 0, n, w, hp, h => by
    have h : some (n0, v) = some (n, w) := h
    injection h with h
    injection h with h1 h2
    subst h2
    have hp : (v.plain && r.plain) = true := hp
    rw [Bool.and_eq_true] at hp
    exact hp.1
  | .cons n0 v r, i + 1, n, w, hp, h => by
    have hp : (v.plain && r.plain) = true := hp
    rw [Bool.and_eq_true] at hp
    exact plain_get r i hp.2 h
theorem plain_mem {v : Value} (hp : v.plain = true) {i : Nat} {n : Bytes} {w : Value} (h : v.member i = some (n, w)) : w.plain = true := by
  cases v with
  | list m =>
    have hp : (m.plain && m.names.all fun (n : Bytes) => n == []) = true := hp
    rw [Bool.and_eq_true] at hp
    exact plain_get m i hp.1 h
  | rec_ m =>
    have hp : (m.plain && (m.names.all nameOk && rising m.names)) = true := hp
    rw [Bool.and_eq_true] at hp
    exact plain_get m i hp.1 h
  | _ => cases h
/-! ### numbers and moments -/
theorem ofLe_le : ∀ (k n : Nat), n < 256 ^ k → ofLe (le k n) = n
  | 0, n, h => by
    have : n = 0 := by simpa using h
    subst this
    rfl
  | k + 1, n, h => by
    rw [le_succ]
    show (UInt8.ofNat (n % 256)).toNat + 256 * ofLe (le k (n / 256)) = n
    rw [Nat.pow_succ] at h
    rw [ofLe_le k (n / 256) (by omega), UInt8.toNat_ofNat']
    omega
theorem amount_lt : ∀ n : Nat, n < 256 ^ amountLength n := fun n => by
  induction n using Nat.strongRecOn with
  | ind n ih =>
    unfold amountLength
    by_cases h : n = 0
    · rw [if_pos h, h]; decide
    · rw [if_neg h, Nat.pow_succ]
      have := ih (n / 256) (by omega)
      omega
theorem num_of (z : Int) : ofLe (inner (.num z)) = z.natAbs := ofLe_le _ _ (amount_lt _)
theorem vary_head (n : Nat) : ∃ c r, vary n = c :: r ∧ c.toNat % 2 = n % 2 := by
  unfold vary
  by_cases h : n < 128
  · rw [if_pos h]
    refine ⟨_, _, rfl, ?_⟩
    rw [UInt8.toNat_ofNat']
    omega
  · rw [if_neg h]
    refine ⟨_, _, rfl, ?_⟩
    rw [UInt8.toNat_ofNat']
    omega
/-- the first byte behind a number's kind tells its sign -/
theorem At.sign {bs : Bytes} {p : Nat} {z : Int} (h : At bs p (.num z)) : ∃ c, bs[p + 1]? = some c ∧ c.toNat % 2 = if z < 0 then 1 else 0 := by
  obtain ⟨c, r, e1, e2⟩ := vary_head (told z)
  refine ⟨c, ?_, ?_⟩
  · obtain ⟨s, hs⟩ := h
    have e : (Value.num z).enc = 2 :: c :: (r ++ Sw.le (amountLength z.natAbs) z.natAbs) := by
      rw [enc_split]
      show 2 :: vary (told z) ++ _ = _
      rw [e1]
      rfl
    have : (bs.drop p)[1]? = some c := by rw [← hs, e]; rfl
    rw [List.getElem?_drop] at this
    exact this
  · rw [e2]
    unfold told
    split <;> omega
end Pm

set_option linter.all false
set_option maxHeartbeats 1000000
namespace Pm
open Sw Hm
/-! ### roots -/
theorem rootFrom_spec (n : Nat) : ∀ (k r : Nat), r * r ≤ n → n < (r + 2 ^ k) * (r + 2 ^ k) → rootFrom n k r * rootFrom n k r ≤ n ∧ n < (rootFrom n k r + 1) * (rootFrom n k r + 1)
  | 0, r, h1, h2 => ⟨h1, h2⟩
  | k + 1, r, h1, h2 => by
    unfold rootFrom
    by_cases c : (r + 2 ^ k) * (r + 2 ^ k) ≤ n
    · rw [if_pos c]
      refine rootFrom_spec n k _ c ?_
      rw [show r + 2 ^ k + 2 ^ k = r + 2 ^ (k + 1) by rw [Nat.pow_succ]; omega]
      exact h2
    · rw [if_neg c]
      exact rootFrom_spec n k r h1 (by omega)
theorem root_spec (n : Nat) : root n * root n ≤ n ∧ n < (root n + 1) * (root n + 1) := by
  unfold root
  refine rootFrom_spec n _ 0 (by omega) ?_
  have h := amount_lt n
  rw [Nat.zero_add, ← Nat.pow_add]
  refine Nat.lt_of_lt_of_le h ?_
  rw [show (256 : Nat) = 2 ^ 8 by decide, ← Nat.pow_mul]
  exact Nat.pow_le_pow_right (by decide) (by omega)
theorem sq_lt {a b : Nat} (h : a * a < b * b) : a < b := by
  rcases Nat.lt_or_ge a b with h1 | h1
  · exact h1
  · exact absurd (Nat.mul_le_mul h1 h1) (by omega)
theorem root_uniq {n r : Nat} (h1 : r * r ≤ n) (h2 : n < (r + 1) * (r + 1)) : r = root n := by
  obtain ⟨g1, g2⟩ := root_spec n
  have a := sq_lt (Nat.lt_of_le_of_lt h1 g2)
  have b := sq_lt (Nat.lt_of_le_of_lt g1 h2)
  omega
/-- from above no step falls below the root -/
theorem newton_ge {n r : Nat} (hr : 0 < r) : root n ≤ (r + n / r) / 2 := by
  obtain ⟨g1, _⟩ := root_spec n
  generalize root n = s at g1
  have hq : n < r * (n / r + 1) := by
    have h1 := Nat.div_add_mod n r
    have h2 := Nat.mod_lt n hr
    rw [Nat.mul_add, Nat.mul_one]
    omega
  generalize n / r = q at hq
  rw [Nat.le_div_iff_mul_le (by decide)]
  rcases Nat.lt_or_ge (r + q) (s * 2) with h | h
  · exfalso
    have h3 : s * s < r * (q + 1) := Nat.lt_of_le_of_lt g1 hq
    have h4 : q + 1 ≤ 2 * s - r := by omega
    have h5 : r * (q + 1) ≤ r * (2 * s - r) := Nat.mul_le_mul_left r h4
    have h6 : r * (2 * s - r) ≤ s * s := by
      rcases Nat.lt_or_ge s r with h7 | h7
      · obtain ⟨d, rfl⟩ : ∃ d, r = s + d := ⟨r - s, by omega⟩
        obtain ⟨e, rfl⟩ : ∃ e, s = d + e := ⟨s - d, by omega⟩
        rw [show 2 * (d + e) - (d + e + d) = e by omega]
        grind
      · obtain ⟨d, rfl⟩ : ∃ d, s = r + d := ⟨s - r, by omega⟩
        rw [show 2 * (r + d) - r = r + 2 * d by omega]
        grind
    omega
  · exact h
/-- when no step comes nearer the root is reached -/
theorem newton_end {n r : Nat} (hr : 0 < r) (h0 : root n ≤ r) (h : r ≤ (r + n / r) / 2) : r = root n := by
  obtain ⟨g1, g2⟩ := root_spec n
  have h1 : r ≤ n / r := by omega
  have h2 : r * r ≤ n := Nat.le_trans (Nat.mul_le_mul_left r h1) (Nat.mul_div_le n r)
  have := sq_lt (Nat.lt_of_le_of_lt h2 g2)
  omega
theorem root_pow {n k : Nat} (h : n < 2 ^ k * 2 ^ k) : root n ≤ 2 ^ k := by
  obtain ⟨g1, _⟩ := root_spec n
  have := sq_lt (Nat.lt_of_le_of_lt g1 h)
  omega
end Pm

set_option linter.all false
set_option maxHeartbeats 1000000
namespace Pm
open Sw Hm
theorem le_cons (k n : Nat) : le (k + 1) n = UInt8.ofNat (n % 256) :: le k (n / 256) := by
  unfold le
  rw [List.range_succ_eq_map, List.map_cons, List.map_map]
  congr 1
  · rw [Nat.pow_zero, Nat.div_one]
  · refine List.map_congr_left fun i _ => ?_
    show UInt8.ofNat (n / 256 ^ (i + 1) % 256) = UInt8.ofNat (n / 256 / 256 ^ i % 256)
    rw [Nat.pow_succ, Nat.mul_comm, Nat.div_div_eq_div_mul]
theorem amount_zero : amountLength 0 = 0 := by unfold amountLength; rfl
theorem amount_pos {n : Nat} (h : n ≠ 0) : amountLength n = amountLength (n / 256) + 1 := by
  conv => lhs; unfold amountLength
  rw [if_neg h]
theorem amount_le : ∀ (k n : Nat), n < 256 ^ k → amountLength n ≤ k
  | 0, n, h => by
    have : n = 0 := by simpa using h
    rw [this, amount_zero]
    exact Nat.le_refl _
  | k + 1, n, h => by
    by_cases h0 : n = 0
    · rw [h0, amount_zero]
      omega
    · rw [amount_pos h0]
      have := amount_le k (n / 256) (by rw [Nat.pow_succ] at h; omega)
      omega
theorem amountRow_pos {n : Nat} (h : n ≠ 0) : le (amountLength n) n = UInt8.ofNat (n % 256) :: le (amountLength (n / 256)) (n / 256) := by
  rw [amount_pos h, le_cons]
end Pm

set_option linter.all false
namespace L2.J
open PySem PySem.Spec PyProof.Rows L2.XC
def top (i : Nat) : Stmt := PySem.Challenge.pw_onevalues_s13_number.main.body.getD i (.Pass ⟨0, 0, 0, 0⟩)
abbrev sFI : Stmt := inClass (top 15) 0
abbrev sRI : Stmt := inClass (top 27) 0
abbrev sSB : Stmt := inClass (top 27) 1
abbrev sRB : Stmt := inClass (top 27) 2
abbrev sPB : Stmt := inClass (top 27) 4
abbrev sRV : Stmt := inClass (top 27) 5
abbrev sSL : Stmt := top 31
abbrev sLS : Stmt := top 32
abbrev sHS : Stmt := top 33
abbrev sPS : Stmt := top 34
abbrev sCU : Stmt := top 35
abbrev sPI : Stmt := inClass (top 37) 0
abbrev sRW : Stmt := top 38
abbrev sLM : Stmt := top 39
abbrev sDP : Stmt := top 40
abbrev sBM : Stmt := top 41
abbrev sBP : Stmt := top 42
abbrev sPN : Stmt := top 43
abbrev sPR : Stmt := top 44
abbrev sRN : Stmt := top 45
abbrev sIB : Stmt := top 46
abbrev sAO : Stmt := top 48
abbrev sNO : Stmt := top 49
abbrev sIR : Stmt := top 50
abbrev sUI : Stmt := inClass (top 52) 0
abbrev sU5 : Stmt := inClass (top 53) 0
abbrev sU4 : Stmt := inClass (top 54) 0
abbrev sU9 : Stmt := inClass (top 55) 0
abbrev sVR : Stmt := top 57
abbrev sAR : Stmt := top 58
abbrev sNR : Stmt := top 59
abbrev sIO : Stmt := top 71
abbrev sND : Stmt := top 72
abbrev sRK : Stmt := top 73
abbrev sLR : Stmt := top 74
abbrev sRO : Stmt := top 75
abbrev sPO : Stmt := top 76
abbrev sRT : Stmt := top 77
abbrev sDV : Stmt := top 78
abbrev sNM : Stmt := top 80
end L2.J

set_option Elab.async false
set_option linter.all false
set_option maxRecDepth 100000
set_option maxHeartbeats 2000000
namespace L2.J
open PySem PySem.Spec PyProof.Rows L2.XC
/-- a byte as a value -/
def bv (c : UInt8) : V := .int (c.toNat : Int)
/-- all that was tracked is as it was, but what stands at r -/
def Kp (H H' : Hp) (r : Addr) : Prop := ∀ b o, H b = some o → b ≠ r → H' b = some o
theorem Kp.trans {H H1 H2 : Hp} {r : Addr} (a : Kp H H1 r) (b : Kp H1 H2 r) : Kp H H2 r := fun c o e n => b c o (a c o e n) n
theorem Kp.refl (H : Hp) (r : Addr) : Kp H H r := fun _ _ e _ => e
theorem sq_kp {K : PySem.W.Frag} {H H' : Hp} {r a C dx : Addr} {fs : List (Str × V)} {xs : List V} (h : SqL K H a xs) (k : Kp H H' r) (hr : H r = some (.ins C dx fs)) : SqL K H' a xs := by
  rcases h with (h | ⟨o, h⟩) | h
  · exact .inl (.inl (k _ _ h (ne_of h hr (by intro z; cases z))))
  · exact .inl (.inr ⟨o, k _ _ h (ne_of h hr (by intro z; cases z))⟩)
  · exact .inr h
/-- a whole number of the module -/
def GI (mg : Str → Option Value) (x : Str) (n : Int) : Prop := ∃ t, mg x = some (.int n t)
theorem pgi {X : Cx} {x : Str} {n : Int} {pos : Pos} (h : GI X.mg x n) (hg : Gl X x) (hd : (x == ("__debug__" : Str)) = false := by decide) : PE X (.Name x pos) (tC (.int n)) := by
  obtain ⟨t, e⟩ := h
  exact pe_glob hg e ⟨t, rfl⟩ hd
/-- bytes as whole numbers -/
def bInts (b : List UInt8) : List Int := b.map fun c => (c.toNat : Int)
theorem bv_ints (b : List UInt8) : b.map bv = (bInts b).map V.int := by
  unfold bInts
  rw [List.map_map]
  rfl
theorem le_before : ∀ (q m : List UInt8), HT.lexLe (bInts m) (bInts q) = !Sw.bytesBefore q m
  | [], [] => rfl
  | [], _ :: _ => rfl
  | _ :: _, [] => rfl
  | a :: q, b :: m => by
    have ih := le_before q m
    show (if (b.toNat : Int) = (a.toNat : Int) then HT.lexLe (bInts m) (bInts q) else decide ((b.toNat : Int) ≤ (a.toNat : Int))) = !(decide (a.toNat < b.toNat) || (a == b && Sw.bytesBefore q m))
    by_cases e : a = b
    · subst e
      rw [if_pos rfl, ih, decide_eq_false (Nat.lt_irrefl _), beq_self_eq_true]
      rfl
    · have hn : ¬ a.toNat = b.toNat := fun z => e (UInt8.toNat_inj.mp z)
      have hb : (a == b) = false := beq_eq_false_iff_ne.mpr e
      rw [if_neg (by omega), hb, Bool.false_and, Bool.or_false]
      by_cases hl : a.toNat < b.toNat
      · rw [decide_eq_true hl, decide_eq_false (by omega)]
        rfl
      · rw [decide_eq_false hl, decide_eq_true (by omega)]
        rfl
theorem cut_bytes (bs : List UInt8) (p n : Nat) (h : p + n ≤ bs.length) {x y : Int} (hx : x = (p : Int)) (hy : y = ((p + n : Nat) : Int)) : cutV (bs.map bv) (some x) (some y) = ((bs.drop p).take n).map bv := by
  unfold cutV
  rw [hx, hy, HT.sIx_nat, HT.sIx_nat, List.length_map, Nat.min_eq_left (by omega), Nat.min_eq_left (by omega), ← List.map_drop, ← List.map_take]
  congr 2
  omega
/-! ### what the document asks -/
theorem text_ints (bs : List UInt8) : ValuesNeutral.text (bInts bs) = bs := by
  unfold ValuesNeutral.text bInts
  rw [List.map_map]
  conv => rhs; rw [← List.map_id bs]
  congr 1
  funext c
  simp
theorem ints_bytes : ∀ (ns : List Int), (∀ x ∈ ns, 0 ≤ x ∧ x ≤ 255) → ∃ bs : List UInt8, ns = bInts bs ∧ bs.length = ns.length
  | [], _ => ⟨[], rfl, rfl⟩
  | x :: ns, h => by
    obtain ⟨bs, e, l⟩ := ints_bytes ns fun y hy => h y (by simp [hy])
    obtain ⟨h0, h1⟩ := h x (by simp)
    refine ⟨UInt8.ofNat x.toNat :: bs, ?_, by simp [l]⟩
    show x :: ns = ((UInt8.ofNat x.toNat).toNat : Int) :: bInts bs
    rw [← e]
    congr 1
    rw [UInt8.toNat_ofNat']
    omega
/-- an answer as a list -/
def ansL (a : Values.Answer) : List Int := a.num :: (a.more ++ ((a.bytes.getD []).map fun (x : UInt8) => ((x.toNat : Nat) : Int)))
theorem ln1 {us : List Value} (h : us.length = 1) : ∃ a, us = [a] := List.length_eq_one_iff.mp h
theorem ln2 {us : List Value} (h : us.length = 2) : ∃ a b, us = [a, b] := by
  cases us with
  | nil => cases h
  | cons a r =>
    obtain ⟨b, rfl⟩ := ln1 (us := r) (Nat.succ.inj h)
    exact ⟨a, b, rfl⟩
theorem ln3 {us : List Value} (h : us.length = 3) : ∃ a b c, us = [a, b, c] := by
  cases us with
  | nil => cases h
  | cons a r =>
    obtain ⟨b, c, rfl⟩ := ln2 (us := r) (Nat.succ.inj h)
    exact ⟨a, b, c, rfl⟩
theorem vary_lt {n : Nat} (h : n < 128) : Sw.vary n = [UInt8.ofNat n] := by
  unfold Sw.vary
  rw [if_pos h]
theorem vary_ge {n : Nat} (h : ¬ n < 128) : Sw.vary n = UInt8.ofNat (128 + n % 128) :: Sw.vary (n / 128) := by
  conv => lhs; unfold Sw.vary
  rw [if_neg h]
theorem bv_of {k : Nat} (h : k < 256) : bv (UInt8.ofNat k) = .int (k : Int) := by
  unfold bv
  rw [UInt8.toNat_ofNat', Nat.mod_eq_of_lt h]
theorem vary_len5 {n : Nat} (h : n < 34359738368) : (Sw.vary n).length ≤ 5 := by
  by_cases h1 : n < 128
  · rw [vary_lt h1]; simp
  rw [vary_ge h1, List.length_cons]
  by_cases h2 : n / 128 < 128
  · rw [vary_lt h2]; simp
  rw [vary_ge h2, List.length_cons]
  by_cases h3 : n / 128 / 128 < 128
  · rw [vary_lt h3]; simp
  rw [vary_ge h3, List.length_cons]
  by_cases h4 : n / 128 / 128 / 128 < 128
  · rw [vary_lt h4]; simp
  rw [vary_ge h4, List.length_cons, vary_lt (by omega)]
  simp
end L2.J

set_option Elab.async false
set_option linter.all false
set_option maxRecDepth 100000
set_option maxHeartbeats 2000000
namespace L2.J
open PySem PySem.Spec PyProof.Rows L2.XC
/-- a reader's attributes -/
def rf (a : Addr) (p : Nat) : List (Str × V) := [("row", .ref a), ("place", .int (p : Int))]
theorem rf_row (a : Addr) (p : Nat) : (rf a p).lookup ("row" : Str) = some (.ref a) := rfl
theorem rf_place (a : Addr) (p : Nat) : (rf a p).lookup ("place" : Str) = some (.int (p : Int)) := rfl
theorem rf_no (a : Addr) (p : Nat) {m : Str} (h1 : ¬ m = "row") (h2 : ¬ m = "place") : (rf a p).lookup m = none := by
  have a1 : (m == ("row" : Str)) = false := beq_eq_false_iff_ne.mpr h1
  have a2 : (m == ("place" : Str)) = false := beq_eq_false_iff_ne.mpr h2
  simp only [rf, List.lookup, a1, a2]
/-- a reader of the row at a stands at r, at place p -/
def RdAt (CR : Addr) (H : Hp) (r a : Addr) (p : Nat) : Prop := ∃ dx, H r = some (.ins CR dx (rf a p))
structure TxR (K : PySem.W.Frag) (mg : Str → Option Value) (CF CR fFI : Addr) : Prop where
  xc : XCls K CF fFI
  cR : Cls K CR
  nRow : NoAttr K CR "row"
  nPl : NoAttr K CR "place"
  mF : mg "Fault" = some (.ref CF)
  len : mg "len" = none
  rng : mg "range" = none
  e1 : GI mg "ENDS_TOO_SOON" 1
  e3 : GI mg "WRONG_VARYING" 3
  mv : GI mg "MOST_VARYING_BYTES" 5
  hv : GI mg "HIGHEST_VARYING" 4294967295
/-! ### the promises -/
def spRI (CR : Addr) : Sp := fun vs H Q _ => ∃ (r dx a : Addr), vs = [.ref r, .ref a] ∧ H r = some (.ins CR dx []) ∧ ∀ H' : Hp, RdAt CR H' r a 0 → Kp H H' r → Q .non H'
def spSB (K : PySem.W.Frag) (CF CR : Addr) : Sp := fun vs H Q E => ∃ (r a : Addr) (p : Nat) (bs : List UInt8), vs = [.ref r] ∧ RdAt CR H r a p ∧ SqL K H a (bs.map bv) ∧
  (match bs[p]? with
    | some c => Q (bv c) H
    | none => Err E CF (.int 1) (.int (bs.length : Int)))
def spRB (K : PySem.W.Frag) (CF CR : Addr) : Sp := fun vs H Q E => ∃ (r a : Addr) (p : Nat) (bs : List UInt8), vs = [.ref r] ∧ RdAt CR H r a p ∧ SqL K H a (bs.map bv) ∧
  (match bs[p]? with
    | some c => ∀ H' : Hp, RdAt CR H' r a (p + 1) → Kp H H' r → Q (bv c) H'
    | none => Err E CF (.int 1) (.int (bs.length : Int)))
section
variable {P : Program} {w : World} {K : PySem.W.Frag} {mg : Str → Option Value} {base : Heap} {CF CR fFI : Addr}
/-! ### Fault.__init__ -/
theorem scFI : FnScope ["self", "kind", "place"] ["self", "kind", "place"] (defScope sFI) := ⟨rfl, rfl, rfl, by decide +kernel, rfl, by decide +kernel, by decide +kernel⟩
theorem ok_FI {f : Addr} {fd : FuncData} (F : Fun K "__init__" "Fault.__init__" sFI f fd) (T : TxR K mg CF CR fFI) : FnOk P w K mg base CX0 1 f fd ["self", "kind", "place"] (spXI CF) := by
  refine F.ok scFI (fun vs H Q E h => ?_) (fun cdv A outer s H vs Q E hr h => ?_)
  · obtain ⟨e, k, p, rfl, _⟩ := h
    rfl
  · obtain ⟨e, k, p, rfl, he, q⟩ := h
    refine ⟨_, pss_cons (ps_x1 T.xc (.inl rfl) (pv 0) (pv 1) rfl) (pss_one (ps_x2 T.xc (.inr rfl) (pv 0) (pv 2) rfl)), ?_⟩
    refine ⟨_, rfl, _, rfl, e, rfl, he, fun dx n ne => ?_⟩
    refine ⟨_, rfl, _, rfl, e, dx, _, rfl, upd_same, by rw [upd_ne ne, upd_same], ne, by show 1 ≤ 1000; decide, ?_⟩
    exact q dx _ ne (by rw [upd_ne (Ne.symm ne), upd_same]) upd_same
/-! ### Reader -/
theorem scRI : FnScope ["self", "row"] ["self", "row"] (defScope sRI) := ⟨rfl, rfl, rfl, by decide +kernel, rfl, by decide +kernel, by decide +kernel⟩
theorem ok_RI {f : Addr} {fd : FuncData} (F : Fun K "__init__" "Reader.__init__" sRI f fd) (T : TxR K mg CF CR fFI) : FnOk P w K mg base CX0 1 f fd ["self", "row"] (spRI CR) := by
  refine F.ok scRI (fun vs H Q E h => ?_) (fun cdv A outer s H vs Q E hr h => ?_)
  · obtain ⟨r, dx, a, rfl, _⟩ := h
    rfl
  · obtain ⟨r, dx, a, rfl, hp, k⟩ := h
    refine ⟨_, pss_cons (ps_fld (pv 0) (pv 1) rfl) (pss_one (ps_fld (pv 0) pe_int rfl)), ?_⟩
    refine ⟨_, rfl, _, rfl, r, CR, dx, [], rfl, hp, T.cR, T.nRow, (by show 0 < 1000; decide), ?_⟩
    refine ⟨_, rfl, r, CR, dx, _, rfl, upd_same, T.cR, T.nPl, (by show 1 < 1000; decide), ?_⟩
    exact k _ ⟨dx, upd_same⟩ fun b o e n => by rw [upd_ne n, upd_ne n]; exact e
theorem scSB : FnScope ["self"] ["self"] (defScope sSB) := ⟨rfl, rfl, rfl, by decide +kernel, rfl, by decide +kernel, by decide +kernel⟩
theorem ok_SB {f : Addr} {fd fdI : FuncData} (F : Fun K "see_byte" "Reader.see_byte" sSB f fd) (T : TxR K mg CF CR fFI) (FI : Fun K "__init__" "Fault.__init__" sFI fFI fdI) (bI : Binds K fdI ["self", "kind", "place"] []) :
    FnOk P w K mg base (CXF P w) 3 f fd ["self"] (spSB K CF CR) := by
  have GI : FnOk P w K mg base CX0 1 fFI fdI ["self", "kind", "place"] (spXI CF) := ok_FI FI T
  refine okX F scSB (fun vs H Q E h => ?_) (fun cdv A outer s H vs Q E hr h => ?_)
  · obtain ⟨r, a, p, bs, rfl, _⟩ := h
    rfl
  · obtain ⟨r, a, p, bs, rfl, ⟨dx, hr1⟩, hs, q⟩ := h
    refine ⟨_, pss_cons (ps_if (pt_cmpR op_ge (pe_fld (pv 0) rfl) (pe_callB call_len_seq (by rfl) T.len PySem.boot_len (pa_cons (pe_fld (pv 0) rfl) pa_nil)) (nomark _))
        (pss_one (ps_raise T.xc GI bI hr flies_cx rfl rfl T.mF (pa_cons (pgi T.e1 rfl) (pa_cons (pe_callB call_len_seq (by rfl) T.len PySem.boot_len (pa_cons (pe_fld (pv 0) rfl) pa_nil)) pa_nil)))) pss_nil)
      (pss_one (ps_ret (pe_ix ix_list (pe_fld (pv 0) rfl) (pe_fld (pv 0) rfl) (fun _ _ => rfl)))), ?_⟩
    refine ⟨_, rfl, r, CR, dx, _, _, rfl, hr1, T.cR, T.nPl, rf_place a p, _, rfl, r, CR, dx, _, _, rfl, hr1, T.cR, T.nRow, rf_row a p, a, _, rfl, .inl hs, _, _, rfl, rfl, _, rfl, ?_⟩
    rw [List.length_map]
    refine ite2 (fun z => ?_) (fun z => ?_)
    · have z := of_decide_eq_true z
      have e : bs[p]? = none := List.getElem?_eq_none_iff.mpr (by omega)
      rw [e] at q
      exact ⟨_, rfl, r, CR, dx, _, _, rfl, hr1, T.cR, T.nRow, rf_row a p, a, _, rfl, .inl hs, _, _, rfl, by rw [List.length_map]; exact q⟩
    · have z : p < bs.length := by
        have z := z
        simp at z
        omega
      have e : bs[p]? = some bs[p] := List.getElem?_eq_getElem z
      rw [e] at q
      exact ⟨_, rfl, r, CR, dx, _, _, rfl, hr1, T.cR, T.nRow, rf_row a p, _, rfl, r, CR, dx, _, _, rfl, hr1, T.cR, T.nPl, rf_place a p, a, _, _, bv bs[p], rfl, rfl, hs, atI_nat (by rw [List.getElem?_map, e]; rfl), q⟩
theorem scRB : FnScope ["self", "byte"] ["self"] (defScope sRB) := ⟨rfl, rfl, rfl, by decide +kernel, rfl, by decide +kernel, by decide +kernel⟩
theorem ok_RB {f fSB : Addr} {fd fdS : FuncData} (F : Fun K "read_byte" "Reader.read_byte" sRB f fd) (T : TxR K mg CF CR fFI)
    (GS : FnOk P w K mg base (CXF P w) 3 fSB fdS ["self"] (spSB K CF CR)) (bS : Binds K fdS ["self"] []) (mS : Meth K CR "see_byte" fSB) :
    FnOk P w K mg base (CXF P w) 4 f fd ["self"] (spRB K CF CR) := by
  refine okX F scRB (fun vs H Q E h => ?_) (fun cdv A outer s H vs Q E hr h => ?_)
  · obtain ⟨r, a, p, bs, rfl, _⟩ := h
    rfl
  · obtain ⟨r, a, p, bs, rfl, ⟨dx, hr1⟩, hs, q⟩ := h
    refine ⟨_, pss_cons (ps_set (i := 1) scRB.nd rfl (Or.inl rfl) (pe_meth0 (pv 0) T.cR mS GS hr bS .nil passX))
      (pss_cons (ps_fldaug (pv 0) pe_int in_add) (pss_one (ps_ret (pv 1)))), ?_⟩
    refine ⟨_, rfl, r, dx, _, rfl, hr1, rf_no a p (by decide +kernel) (by decide +kernel), r, a, p, bs, rfl, ⟨dx, hr1⟩, hs, ?_⟩
    cases e : bs[p]? with
    | none =>
      rw [e] at q
      exact q
    | some c =>
      rw [e] at q
      refine ⟨_, rfl, r, CR, dx, _, _, rfl, hr1, T.cR, T.nPl, rf_place a p, _, _, rfl, rfl, dx, _, hr1, (by show 2 < 1000; decide), ?_⟩
      refine ⟨_, rfl, q _ ⟨dx, ?_⟩ fun b o e n => by rw [upd_ne n]; exact e⟩
      rw [upd_same]
      rfl
end
end L2.J

set_option Elab.async false
set_option linter.all false
set_option maxRecDepth 100000
set_option maxHeartbeats 2000000
namespace L2.J
open PySem PySem.Spec PyProof.Rows L2.XC
def spPB (K : PySem.W.Frag) (CF CR : Addr) : Sp := fun vs H Q E => ∃ (r a : Addr) (p n : Nat) (bs : List UInt8), vs = [.ref r, .int (n : Int)] ∧ RdAt CR H r a p ∧ SqL K H a (bs.map bv) ∧ p ≤ bs.length ∧
  (if bs.length - p < n then Err E CF (.int 1) (.int (bs.length : Int)) else ∀ H' : Hp, RdAt CR H' r a (p + n) → Kp H H' r → Q (.int (p : Int)) H')
section
variable {P : Program} {w : World} {K : PySem.W.Frag} {mg : Str → Option Value} {base : Heap} {CF CR fFI : Addr}
theorem scPB : FnScope ["self", "how_many", "first"] ["self", "how_many"] (defScope sPB) := ⟨rfl, rfl, rfl, by decide +kernel, rfl, by decide +kernel, by decide +kernel⟩
theorem ok_PB {f : Addr} {fd fdI : FuncData} (F : Fun K "pass_bytes" "Reader.pass_bytes" sPB f fd) (T : TxR K mg CF CR fFI) (FI : Fun K "__init__" "Fault.__init__" sFI fFI fdI) (bI : Binds K fdI ["self", "kind", "place"] []) :
    FnOk P w K mg base (CXF P w) 3 f fd ["self", "how_many"] (spPB K CF CR) := by
  have GI : FnOk P w K mg base CX0 1 fFI fdI ["self", "kind", "place"] (spXI CF) := ok_FI FI T
  refine okX F scPB (fun vs H Q E h => ?_) (fun cdv A outer s H vs Q E hr h => ?_)
  · obtain ⟨r, a, p, n, bs, rfl, _⟩ := h
    rfl
  · obtain ⟨r, a, p, n, bs, rfl, ⟨dx, hr1⟩, hs, hp, q⟩ := h
    refine ⟨_, pss_cons (ps_if (pt_cmpR op_gt (pv 1) (pe_op op_sub (pe_callB call_len_seq (by rfl) T.len PySem.boot_len (pa_cons (pe_fld (pv 0) rfl) pa_nil)) (pe_fld (pv 0) rfl)) (nomark _))
        (pss_one (ps_raise T.xc GI bI hr flies_cx rfl rfl T.mF (pa_cons (pgi T.e1 rfl) (pa_cons (pe_callB call_len_seq (by rfl) T.len PySem.boot_len (pa_cons (pe_fld (pv 0) rfl) pa_nil)) pa_nil)))) pss_nil)
      (pss_cons (ps_set (i := 2) scPB.nd rfl (Or.inl rfl) (pe_fld (pv 0) rfl))
      (pss_cons (ps_fldaug (pv 0) (pv 1) in_add) (pss_one (ps_ret (pv 2))))), ?_⟩
    refine ⟨_, rfl, _, rfl, r, CR, dx, _, _, rfl, hr1, T.cR, T.nRow, rf_row a p, a, _, rfl, .inl hs, _, rfl, r, CR, dx, _, _, rfl, hr1, T.cR, T.nPl, rf_place a p, _, _, rfl, rfl, _, _, rfl, rfl, _, rfl, ?_⟩
    rw [List.length_map]
    refine ite2 (fun z => ?_) (fun z => ?_)
    · have z := of_decide_eq_true z
      rw [if_pos (by omega)] at q
      exact ⟨_, rfl, r, CR, dx, _, _, rfl, hr1, T.cR, T.nRow, rf_row a p, a, _, rfl, .inl hs, _, _, rfl, by rw [List.length_map]; exact q⟩
    · have z : ¬ bs.length - p < n := by
        have z := z
        simp at z
        omega
      rw [if_neg z] at q
      refine ⟨_, rfl, r, CR, dx, _, _, rfl, hr1, T.cR, T.nPl, rf_place a p, ?_⟩
      refine ⟨_, rfl, r, CR, dx, _, _, rfl, hr1, T.cR, T.nPl, rf_place a p, _, rfl, _, _, rfl, rfl, dx, _, hr1, (by show 2 < 1000; decide), ?_⟩
      refine ⟨_, rfl, q _ ⟨dx, ?_⟩ fun b o e n => by rw [upd_ne n]; exact e⟩
      rw [upd_same]
      rfl
end
end L2.J

set_option Elab.async false
set_option linter.all false
set_option maxRecDepth 100000
set_option maxHeartbeats 2000000
namespace L2.J
open PySem PySem.Spec PyProof.Rows L2.XC
/-- what is wanted of a reading: its end, or the fault -/
def Out {α : Type} (E : XK) (CF : Addr) (r : Except Sw.Fault α) (k : α → Prop) : Prop := match r with
  | .ok x => k x
  | .error e => Err E CF (.int (e.kind : Int)) (.int (e.place : Int))
def spRV (K : PySem.W.Frag) (CF CR : Addr) : Sp := fun vs H Q E => ∃ (r a : Addr) (p : Nat) (bs : List UInt8), vs = [.ref r] ∧ RdAt CR H r a p ∧ SqL K H a (bs.map bv) ∧ p ≤ bs.length ∧
  Out E CF (Sw.varyOf p (bs.drop p)) fun (x : Nat × Nat) => ∀ H' : Hp, RdAt CR H' r a (p + x.2) → Kp H H' r → Q (.int (x.1 : Int)) H'
theorem test_gt {j : Nat} {x y : Int} {σ : St} {H : Hp} {Q : Bool → Hp → Prop} (h : σ[j]? = some (some (.int x))) (q : Q (decide (y < x)) H) : tTest (tOp (rI0 fun i j => V.bl (decide (j < i))) (tVar j) (tC (V.int y))) σ H Q :=
  ⟨_, h, _, _, rfl, rfl, _, rfl, q⟩
section
variable {P : Program} {w : World} {K : PySem.W.Frag} {mg : Str → Option Value} {base : Heap} {CF CR fFI : Addr}
theorem scRV : FnScope ["self", "first", "amount", "weight", "before", "byte"] ["self"] (defScope sRV) := ⟨rfl, rfl, rfl, by decide +kernel, rfl, by decide +kernel, by decide +kernel⟩
theorem ok_RV {f fRB : Addr} {fd fdI fdB : FuncData} (F : Fun K "read_varying" "Reader.read_varying" sRV f fd) (T : TxR K mg CF CR fFI) (FI : Fun K "__init__" "Fault.__init__" sFI fFI fdI) (bI : Binds K fdI ["self", "kind", "place"] [])
    (GB : FnOk P w K mg base (CXF P w) 4 fRB fdB ["self"] (spRB K CF CR)) (bB : Binds K fdB ["self"] []) (mB : Meth K CR "read_byte" fRB) :
    FnOk P w K mg base (CXF P w) 5 f fd ["self"] (spRV K CF CR) := by
  have GI : FnOk P w K mg base CX0 1 fFI fdI ["self", "kind", "place"] (spXI CF) := ok_FI FI T
  refine okX F scRV (fun vs H Q E h => ?_) (fun cdv A outer s H vs Q E hr h => ?_)
  · obtain ⟨r, a, p, bs, rfl, _⟩ := h
    rfl
  · obtain ⟨r, a, p, bs, rfl, ⟨dx, hr1⟩, hs, hp, q⟩ := h
    have hr2 : Room 2 _ := hr.mono (by decide)
    refine ⟨_, pss_cons (ps_set (i := 1) scRV.nd rfl (Or.inl rfl) (pe_fld (pv 0) rfl))
      (pss_cons (ps_set (i := 2) scRV.nd rfl (Or.inl rfl) pe_int)
      (pss_cons (ps_set (i := 3) scRV.nd rfl (Or.inl rfl) pe_int)
      (pss_cons (ps_for PassesOwn.leaving rfl (pi_range1 rfl T.rng (pa_cons (pgi T.mv rfl) pa_nil)) (pg_name (i := 4) scRV.nd rfl (Or.inl rfl))
        (pss_cons (ps_set (i := 5) scRV.nd rfl (Or.inl rfl) (pe_meth0 (pv 0) T.cR mB GB hr bB .nil passX))
        (pss_cons (ps_aug (i := 2) scRV.nd rfl (Or.inl rfl) (pe_op op_mul (pe_op op_mod (pv 5) pe_int) (pv 3)) iop_add)
        (pss_cons (ps_aug (i := 3) scRV.nd rfl (Or.inl rfl) pe_int iop_mul)
        (pss_one (ps_if (pt_cmpR op_lt (pv 5) pe_int (nomark _))
          (pss_cons (ps_if (PW.pt (pw_or (PW.pt (pw_and (pt_cmpR op_eq (pv 5) pe_int (nomark _)) (pw_and1 (pt_cmpR op_gt (pv 4) pe_int (nomark _))))) (pw_or1 (pt_cmpR op_gt (pv 2) (pgi T.hv rfl) (nomark _)))))
            (pss_one (ps_raise T.xc GI bI hr2 flies_cx rfl rfl T.mF (pa_cons (pgi T.e3 rfl) (pa_cons (pv 1) pa_nil)))) pss_nil)
          (pss_one (ps_ret (pv 2)))) pss_nil))))))
      (pss_one (ps_raise T.xc GI bI hr2 flies_cx rfl rfl T.mF (pa_cons (pgi T.e3 rfl) (pa_cons (pv 1) pa_nil))))))), ?_⟩
    refine ⟨_, rfl, r, CR, dx, _, _, rfl, hr1, T.cR, T.nPl, rf_place a p, ?_⟩
    refine ⟨5, rfl, by decide, by decide, for_range (lo := 0) (n := 5) (fun i σ H' => ∃ (am wt : Int) (v4 v5 : Option V), σ = [some (.ref r), some (.int (p : Int)), some (.int am), some (.int wt), v4, v5] ∧
        am = ((Vm.val ((bs.drop p).take i) : Nat) : Int) ∧ wt = ((128 ^ i : Nat) : Int) ∧ RdAt CR H' r a (p + i) ∧ Kp H H' r ∧ i ≤ (bs.drop p).length ∧ Vm.High ((bs.drop p).take i))
      ⟨0, 1, none, none, rfl, rfl, rfl, ⟨dx, hr1⟩, Kp.refl H r, Nat.zero_le _, fun c hc => by simp at hc⟩ ?_ ?_⟩
    · rintro i σ H1 hi ⟨am, wt, v4, v5, rfl, ham, hwt, ⟨dx1, h1⟩, k1, li, hh⟩
      have sq := sq_kp hs k1 hr1
      have ldrop : (bs.drop p).length = bs.length - p := List.length_drop
      have ltk : ((bs.drop p).take i).length = i := by rw [List.length_take]; omega
      have hx : (bs.drop p)[i]? = bs[p + i]? := by rw [List.getElem?_drop]
      refine ⟨_, rfl, r, dx1, _, rfl, h1, rf_no a (p + i) (by decide +kernel) (by decide +kernel), r, a, p + i, bs, rfl, ⟨dx1, h1⟩, sq, ?_⟩
      cases e : bs[p + i]? with
      | none =>
        have l1 : bs.length ≤ p + i := List.getElem?_eq_none_iff.mp e
        have e1 : (bs.drop p).take i = bs.drop p := List.take_of_length_le (by omega)
        rw [e1] at hh
        have e2 := Vm.vary_end (p := p) hh (by omega)
        rw [e2] at q
        have e3 : p + (bs.drop p).length = bs.length := by omega
        have q' : Err E CF (.int 1) (.int ((p + (bs.drop p).length : Nat) : Int)) := q
        rw [e3] at q'
        exact q'
      | some c =>
        intro H2 hr2' k2
        have l1 : p + i < bs.length := (List.getElem?_eq_some_iff.mp e).1
        have e0 : bs.drop p = (bs.drop p).take i ++ c :: bs.drop (p + i + 1) := by
          have t1 : (bs.drop p).drop i = c :: bs.drop (p + i + 1) := by
            rw [List.drop_drop, List.drop_eq_getElem_cons l1]
            rw [List.getElem?_eq_getElem l1] at e
            cases e
            rfl
          rw [← t1, List.take_append_drop]
        have e1 : (bs.drop p).take (i + 1) = (bs.drop p).take i ++ [c] := by
          rw [List.take_add_one, hx, e]
          rfl
        have ev := Vm.val_snoc ((bs.drop p).take i) c
        rw [ltk] at ev
        have ea : am + ((c.toNat : Int) % 128) * wt = ((Vm.val ((bs.drop p).take (i + 1)) : Nat) : Int) := by
          rw [ham, hwt, e1, ev, Int.natCast_add, Int.natCast_mul, Int.natCast_emod]
          rfl
        have ew : wt * 128 = ((128 ^ (i + 1) : Nat) : Int) := by
          rw [hwt, Nat.pow_succ, Int.natCast_mul]
          rfl
        refine ⟨_, rfl, _, rfl, _, _, rfl, rfl, (by show (0 : Int) < 128; decide), _, rfl, _, _, rfl, rfl, .inl ⟨?_, ?_⟩, _, _, rfl, rfl, ?_⟩
        · show -(2 ^ 64 : Int) < (c.toNat : Int) % 128
          omega
        · show (c.toNat : Int) % 128 < 2 ^ 64
          omega
        refine ⟨_, rfl, _, _, rfl, rfl, .inr ⟨by decide, by decide⟩, ?_⟩
        refine ⟨_, rfl, _, _, rfl, rfl, _, rfl, ?_⟩
        refine ite2 (fun z => ?_) (fun z => ?_)
        · have z := of_decide_eq_true z
          have hc : c.toNat < 128 := by omega
          have ev3 := (congrArg (Sw.varyOf p) e0).trans (Vm.vary_stop (r := bs.drop (p + i + 1)) hh (by omega) hc)
          rw [ltk, ← e1] at ev3
          rw [ev3] at q
          have bad : (i > 0 ∧ c = 0) ∨ 2 ^ 32 ≤ Vm.val ((bs.drop p).take (i + 1)) → Err E CF (.int 3) (.int (p : Int)) := fun hb => by
            rcases hb with hb | hb
            · rw [if_pos hb] at q; exact q
            · by_cases hz : i > 0 ∧ c = 0
              · rw [if_pos hz] at q; exact q
              · rw [if_neg hz, if_pos hb] at q; exact q
          have good : ¬ (i > 0 ∧ c = 0) → ¬ 2 ^ 32 ≤ Vm.val ((bs.drop p).take (i + 1)) → Q (.int (am + ((c.toNat : Int) % 128) * wt)) H2 := fun h1 h2 => by
            rw [if_neg h1, if_neg h2] at q
            rw [ea]
            exact q H2 (by show RdAt CR H2 r a (p + (i + 1)); rw [← Nat.add_assoc]; exact hr2') (k1.trans k2)
          have c0 : (V.int (c.toNat : Int) = V.int 0) ↔ c = 0 := by
            constructor
            · intro hh0
              injection hh0 with hh0
              exact UInt8.toNat_inj.mp (by show c.toNat = 0; omega)
            · intro hh0
              rw [hh0]
              rfl
          refine ⟨_, rfl, rfl, _, rfl, ite2 (fun z1 => ?_) (fun z1 => ?_)⟩
          · have z1 := c0.mp (of_decide_eq_true z1)
            refine ⟨_, rfl, _, _, rfl, rfl, _, rfl, ?_⟩
            by_cases z2 : i > 0
            · rw [decide_eq_true (show (0 : Int) < 0 + (i : Int) by omega)]
              exact ⟨_, rfl, _, _, rfl, bad (.inl ⟨z2, z1⟩)⟩
            · rw [decide_eq_false (show ¬ (0 : Int) < 0 + (i : Int) by omega)]
              refine test_gt rfl (ite2 (fun z3 => ?_) (fun z3 => ?_))
              · have z3 := of_decide_eq_true z3
                exact ⟨_, rfl, _, _, rfl, bad (.inr (by omega))⟩
              · exact ⟨_, rfl, good (fun hz => z2 hz.1) fun hz => z3 (decide_eq_true (by omega))⟩
          · refine test_gt rfl (ite2 (fun z3 => ?_) (fun z3 => ?_))
            · have z3 := of_decide_eq_true z3
              exact ⟨_, rfl, _, _, rfl, bad (.inr (by omega))⟩
            · exact ⟨_, rfl, good (fun hz => z1 (decide_eq_true (c0.mpr hz.2))) fun hz => z3 (decide_eq_true (by omega))⟩
        · have z : ¬ c.toNat < 128 := by
            have z := z
            simp at z
            omega
          refine ⟨_, _, _, _, rfl, ea, ew, ?_, k1.trans k2, by omega, ?_⟩
          · rw [← Nat.add_assoc]; exact hr2'
          · rw [e1]
            intro d hd
            rcases List.mem_append.mp hd with hd | hd
            · exact hh d hd
            · rw [List.mem_singleton.mp hd]; omega
    · rintro σ H1 ⟨am, wt, v4, v5, rfl, _, _, _, _, l5, hh⟩
      have e5 := Vm.vary_five (p := p) (r := (bs.drop p).drop 5) hh (by rw [List.length_take]; omega)
      rw [List.take_append_drop] at e5
      rw [e5] at q
      exact ⟨_, rfl, _, _, rfl, q⟩
end
end L2.J

set_option Elab.async false
set_option linter.all false
set_option maxRecDepth 100000
set_option maxHeartbeats 2000000
namespace L2.J
open PySem PySem.Spec PyProof.Rows L2.XC
structure TxU (mg : Str → Option Value) : Prop where
  lf : GI mg "LOWEST_FURTHER" 128
  hf : GI mg "HIGHEST_FURTHER" 191
  e5 : GI mg "WRONG_UTF8" 5
  mn : mg "min" = none
/-- how many bytes a scalar value has -/
def slen (c : Nat) : Nat := if Um.cf c = 0 then 0 else Um.cf c + 1
/-- what pass_scalar gives of a first byte and those behind it, before the end -/
def psAt (p : Nat) (c : UInt8) (b : List UInt8) : Except Nat Nat := if Um.cf c.toNat = 0 then .error p else match Um.fbad (Um.ls c.toNat) (Um.hs c.toNat) (p + 1) (b.take (Um.cf c.toNat)) with
  | some q => .error q
  | none => .ok (p + 1 + Um.cf c.toNat)
/-- a def of one number -/
def spN (g : Nat → Nat) : Sp := fun vs H Q _ => ∃ c : Nat, vs = [.int (c : Int)] ∧ Q (.int ((g c : Nat) : Int)) H
def spPS (K : PySem.W.Frag) (CF : Addr) : Sp := fun vs H Q E => ∃ (a : Addr) (pl en : Nat) (c : UInt8) (bs : List UInt8), vs = [.ref a, .int (pl : Int), .int (en : Int)] ∧ SqL K H a (bs.map bv) ∧ bs[pl]? = some c ∧ pl < en ∧ en ≤ bs.length ∧ bs.length ≤ 65536 ∧
  (match psAt pl c ((bs.drop (pl + 1)).take (en - (pl + 1))) with
    | .error q => Err E CF (.int 5) (.int (q : Int))
    | .ok z => Q (.int (z : Int)) H)
def spCU (K : PySem.W.Frag) (CF : Addr) : Sp := fun vs H Q E => ∃ (a : Addr) (st en : Nat) (bs : List UInt8), vs = [.ref a, .int (st : Int), .int (en : Int)] ∧ SqL K H a (bs.map bv) ∧ st ≤ en ∧ en ≤ bs.length ∧ bs.length ≤ 65536 ∧
  (match Um.urun 0 128 191 st ((bs.drop st).take (en - st)) with
    | some q => Err E CF (.int 5) (.int (q : Int))
    | none => Q .non H)
section
variable {P : Program} {w : World} {K : PySem.W.Frag} {mg : Str → Option Value} {base : Heap} {CF CR fFI : Addr}
theorem scSL : FnScope ["first"] ["first"] (defScope sSL) := ⟨rfl, rfl, rfl, by decide +kernel, rfl, by decide +kernel, by decide +kernel⟩
/-- a <= c <= b -/
theorem between {lo hi c : Nat} {i : Nat} {σ : St} {H : Hp} {Q : Bool → Hp → Prop} (h : σ[i]? = some (some (.int (c : Int)))) (q : Q (decide (lo ≤ c ∧ c ≤ hi)) H) :
    tTest (tChain (rI0 fun i j => V.bl (decide (i ≤ j))) (rI0 fun i j => V.bl (decide (i ≤ j))) (tC (.int (lo : Int))) (tVar i) (tC (.int (hi : Int)))) σ H Q := by
  refine ⟨_, h, _, _, rfl, rfl, _, rfl, ?_⟩
  by_cases h1 : lo ≤ c
  · rw [decide_eq_true (show (lo : Int) ≤ (c : Int) by omega)]
    refine iteT ⟨_, _, rfl, rfl, _, rfl, ?_⟩
    have e : decide ((c : Int) ≤ (hi : Int)) = decide (lo ≤ c ∧ c ≤ hi) := by
      by_cases h2 : c ≤ hi
      · rw [decide_eq_true (show (c : Int) ≤ (hi : Int) by omega), decide_eq_true ⟨h1, h2⟩]
      · rw [decide_eq_false (show ¬ (c : Int) ≤ (hi : Int) by omega), decide_eq_false (fun z => h2 z.2)]
    rw [e]
    exact q
  · rw [decide_eq_false (show ¬ (lo : Int) ≤ (c : Int) by omega)]
    refine iteF ⟨_, rfl, ?_⟩
    rw [decide_eq_false (fun z => h1 z.1)] at q
    exact q
theorem ok_SL {f : Addr} {fd : FuncData} (F : Fun K "scalar_length" "scalar_length" sSL f fd) : FnOk P w K mg base CX0 1 f fd ["first"] (spN slen) := by
  refine F.ok scSL (fun vs H Q E h => ?_) (fun cdv A outer s H vs Q E hr h => ?_)
  · obtain ⟨c, rfl, _⟩ := h
    rfl
  · obtain ⟨c, rfl, q⟩ := h
    refine ⟨_, pss_cons (ps_if (pt_chain op_le op_le pe_int (pv 0) pe_int) (pss_one (ps_ret pe_int)) pss_nil)
      (pss_cons (ps_if (pt_chain op_le op_le pe_int (pv 0) pe_int) (pss_one (ps_ret pe_int)) pss_nil)
      (pss_cons (ps_if (pt_chain op_le op_le pe_int (pv 0) pe_int) (pss_one (ps_ret pe_int)) pss_nil) (pss_one (ps_ret pe_int)))), ?_⟩
    unfold slen Um.cf at q
    refine between (lo := 194) (hi := 223) rfl (ite2 (fun z => ?_) (fun z => ?_))
    · rw [if_pos (of_decide_eq_true z)] at q
      exact q
    · rw [if_neg (fun y => z (decide_eq_true y))] at q
      refine between (lo := 224) (hi := 239) rfl (ite2 (fun z => ?_) (fun z => ?_))
      · rw [if_pos (of_decide_eq_true z)] at q
        exact q
      · rw [if_neg (fun y => z (decide_eq_true y))] at q
        refine between (lo := 240) (hi := 244) rfl (ite2 (fun z => ?_) (fun z => ?_))
        · rw [if_pos (of_decide_eq_true z)] at q
          exact q
        · rw [if_neg (fun y => z (decide_eq_true y))] at q
          exact q
/-- c == n -/
theorem equals {n c : Nat} {i : Nat} {σ : St} {H : Hp} {Q : Bool → Hp → Prop} (h : σ[i]? = some (some (.int (c : Int)))) (q : Q (decide (c = n)) H) : tTest (tOp rEq (tVar i) (tC (.int (n : Int)))) σ H Q := by
  refine ⟨_, h, rfl, _, rfl, ?_⟩
  have e : decide (V.int (c : Int) = V.int (n : Int)) = decide (c = n) := by
    by_cases z : c = n
    · rw [z, decide_eq_true rfl, decide_eq_true rfl]
    · rw [decide_eq_false z, decide_eq_false (fun y => z (by injection y with y; omega))]
  rw [e]
  exact q
theorem scLS : FnScope ["first"] ["first"] (defScope sLS) := ⟨rfl, rfl, rfl, by decide +kernel, rfl, by decide +kernel, by decide +kernel⟩
theorem ok_LS {f : Addr} {fd : FuncData} (F : Fun K "lowest_second" "lowest_second" sLS f fd) (U : TxU mg) : FnOk P w K mg base CX0 1 f fd ["first"] (spN Um.ls) := by
  refine F.ok scLS (fun vs H Q E h => ?_) (fun cdv A outer s H vs Q E hr h => ?_)
  · obtain ⟨c, rfl, _⟩ := h
    rfl
  · obtain ⟨c, rfl, q⟩ := h
    refine ⟨_, pss_cons (ps_if (pt_cmpR op_eq (pv 0) pe_int (nomark _)) (pss_one (ps_ret pe_int)) pss_nil)
      (pss_cons (ps_if (pt_cmpR op_eq (pv 0) pe_int (nomark _)) (pss_one (ps_ret pe_int)) pss_nil) (pss_one (ps_ret (pgi U.lf rfl)))), ?_⟩
    unfold Um.ls at q
    refine equals (n := 224) rfl (ite2 (fun z => ?_) (fun z => ?_))
    · rw [if_pos (of_decide_eq_true z)] at q
      exact q
    · rw [if_neg (fun y => z (decide_eq_true y))] at q
      refine equals (n := 240) rfl (ite2 (fun z => ?_) (fun z => ?_))
      · rw [if_pos (of_decide_eq_true z)] at q
        exact q
      · rw [if_neg (fun y => z (decide_eq_true y))] at q
        exact q
theorem scHS : FnScope ["first"] ["first"] (defScope sHS) := ⟨rfl, rfl, rfl, by decide +kernel, rfl, by decide +kernel, by decide +kernel⟩
theorem ok_HS {f : Addr} {fd : FuncData} (F : Fun K "highest_second" "highest_second" sHS f fd) (U : TxU mg) : FnOk P w K mg base CX0 1 f fd ["first"] (spN Um.hs) := by
  refine F.ok scHS (fun vs H Q E h => ?_) (fun cdv A outer s H vs Q E hr h => ?_)
  · obtain ⟨c, rfl, _⟩ := h
    rfl
  · obtain ⟨c, rfl, q⟩ := h
    refine ⟨_, pss_cons (ps_if (pt_cmpR op_eq (pv 0) pe_int (nomark _)) (pss_one (ps_ret pe_int)) pss_nil)
      (pss_cons (ps_if (pt_cmpR op_eq (pv 0) pe_int (nomark _)) (pss_one (ps_ret pe_int)) pss_nil) (pss_one (ps_ret (pgi U.hf rfl)))), ?_⟩
    unfold Um.hs at q
    refine equals (n := 237) rfl (ite2 (fun z => ?_) (fun z => ?_))
    · rw [if_pos (of_decide_eq_true z)] at q
      exact q
    · rw [if_neg (fun y => z (decide_eq_true y))] at q
      refine equals (n := 244) rfl (ite2 (fun z => ?_) (fun z => ?_))
      · rw [if_pos (of_decide_eq_true z)] at q
        exact q
      · rw [if_neg (fun y => z (decide_eq_true y))] at q
        exact q
theorem scPS : FnScope ["row", "place", "end", "first", "length", "lowest", "highest", "further"] ["row", "place", "end"] (defScope sPS) := ⟨rfl, rfl, rfl, by decide +kernel, rfl, by decide +kernel, by decide +kernel⟩
theorem ok_PS {f f1 f2 f3 : Addr} {fd fdI fd1 fd2 fd3 : FuncData} (F : Fun K "pass_scalar" "pass_scalar" sPS f fd) (T : TxR K mg CF CR fFI) (U : TxU mg) (FI : Fun K "__init__" "Fault.__init__" sFI fFI fdI) (bI : Binds K fdI ["self", "kind", "place"] [])
    (F1 : Fun K "scalar_length" "scalar_length" sSL f1 fd1) (b1 : Binds K fd1 ["first"] []) (m1 : mg "scalar_length" = some (.ref f1))
    (F2 : Fun K "lowest_second" "lowest_second" sLS f2 fd2) (b2 : Binds K fd2 ["first"] []) (m2 : mg "lowest_second" = some (.ref f2))
    (F3 : Fun K "highest_second" "highest_second" sHS f3 fd3) (b3 : Binds K fd3 ["first"] []) (m3 : mg "highest_second" = some (.ref f3)) :
    FnOk P w K mg base (CXF P w) 3 f fd ["row", "place", "end"] (spPS K CF) := by
  have GI : FnOk P w K mg base CX0 1 fFI fdI ["self", "kind", "place"] (spXI CF) := ok_FI FI T
  have G1 : FnOk P w K mg base CX0 1 f1 fd1 ["first"] (spN slen) := ok_SL F1
  have G2 : FnOk P w K mg base CX0 1 f2 fd2 ["first"] (spN Um.ls) := ok_LS F2 U
  have G3 : FnOk P w K mg base CX0 1 f3 fd3 ["first"] (spN Um.hs) := ok_HS F3 U
  refine okX F scPS (fun vs H Q E h => ?_) (fun cdv A outer s H vs Q E hr h => ?_)
  · obtain ⟨a, pl, en, c, bs, rfl, _⟩ := h
    rfl
  · obtain ⟨a, pl, en, c, bs, rfl, hs, hc, h1, h2, h3, q⟩ := h
    have hr1 : Room 1 _ := hr.mono (by decide)
    refine ⟨_, pss_cons (ps_set (i := 3) scPS.nd rfl (Or.inl rfl) (pe_ix ix_list (pv 0) (pv 1) (fun _ _ => rfl)))
      (pss_cons (ps_set (i := 4) scPS.nd rfl (Or.inl rfl) (pe_call G1 hr1 rfl m1 F1.kp b1 .nil pass0 (pa_cons (pv 3) pa_nil)))
      (pss_cons (ps_if (pt_cmpR op_eq (pv 4) pe_int (nomark _)) (pss_one (ps_raise T.xc GI bI hr flies_cx rfl rfl T.mF (pa_cons (pgi U.e5 rfl) (pa_cons (pv 1) pa_nil)))) pss_nil)
      (pss_cons (ps_set (i := 5) scPS.nd rfl (Or.inl rfl) (pe_call G2 hr1 rfl m2 F2.kp b2 .nil pass0 (pa_cons (pv 3) pa_nil)))
      (pss_cons (ps_set (i := 6) scPS.nd rfl (Or.inl rfl) (pe_call G3 hr1 rfl m3 F3.kp b3 .nil pass0 (pa_cons (pv 3) pa_nil)))
      (pss_cons (ps_for PassesOwn.leaving rfl (pi_range2 rfl T.rng (pa_cons (pe_op op_add (pv 1) pe_int) (pa_cons (pe_callB (call_min2 rfl) (by rfl) U.mn boot_min (pa_cons (pe_op op_add (pv 1) (pv 4)) (pa_cons (pv 2) pa_nil))) pa_nil))) (pg_name (i := 7) scPS.nd rfl (Or.inl rfl))
        (pss_cons (ps_if (PW.pt (pw_or (pt_cmpR op_lt (pe_ix ix_list (pv 0) (pv 7) (fun _ _ => rfl)) (pv 5) (nomark _)) (pw_or1 (pt_cmpR op_gt (pe_ix ix_list (pv 0) (pv 7) (fun _ _ => rfl)) (pv 6) (nomark _)))))
            (pss_one (ps_raise T.xc GI bI hr flies_cx rfl rfl T.mF (pa_cons (pgi U.e5 rfl) (pa_cons (pv 7) pa_nil)))) pss_nil)
        (pss_cons (ps_set (i := 5) scPS.nd rfl (Or.inl rfl) (pgi U.lf rfl)) (pss_one (ps_set (i := 6) scPS.nd rfl (Or.inl rfl) (pgi U.hf rfl))))))
      (pss_one (ps_ret (pe_op op_add (pv 1) (pv 4))))))))), ?_⟩
    refine ⟨_, rfl, _, rfl, a, _, _, bv c, rfl, rfl, hs, atI_nat (by rw [List.getElem?_map, hc]; rfl), ?_⟩
    refine ⟨_, rfl, c.toNat, rfl, ?_⟩
    refine equals (n := 0) rfl ?_
    unfold psAt at q
    unfold slen
    by_cases h0 : Um.cf c.toNat = 0
    · rw [if_pos h0] at q
      rw [if_pos h0, decide_eq_true rfl]
      exact iteT ⟨_, rfl, _, _, rfl, q⟩
    · rw [if_neg h0] at q
      rw [if_neg h0, decide_eq_false (by omega)]
      refine iteF ⟨_, rfl, c.toNat, rfl, _, rfl, c.toNat, rfl, ?_⟩
      generalize hk : Um.cf c.toNat = k at q h0
      generalize hseg : ((bs.drop (pl + 1)).take (en - (pl + 1))).take k = seg at q
      have lseg : seg.length = min k (en - (pl + 1)) := by rw [← hseg, List.length_take, List.length_take, List.length_drop]; omega
      have hat : ∀ i, i < seg.length → seg[i]? = bs[pl + 1 + i]? := fun i hi => by
        rw [← hseg, List.getElem?_take_of_lt (by omega), List.getElem?_take_of_lt (by omega), List.getElem?_drop]
      generalize hR : Um.fbad (Um.ls c.toNat) (Um.hs c.toNat) (pl + 1) seg = R at q
      have eM : (if (en : Int) < (pl : Int) + ((k + 1 : Nat) : Int) then (en : Int) else (pl : Int) + ((k + 1 : Nat) : Int)) = ((pl + 1 + seg.length : Nat) : Int) := by
        rw [lseg]
        by_cases z : (en : Int) < (pl : Int) + ((k + 1 : Nat) : Int)
        · rw [if_pos z]; omega
        · rw [if_neg z]; omega
      refine ⟨_, rfl, _, _, rfl, rfl, _, rfl, _, rfl, _, _, rfl, rfl, _, rfl, _, _, rfl, _, _, rfl, ?_, ?_⟩
      · rw [eM]
        exact ⟨by omega, by omega, by omega, by omega⟩
      rw [eM, show (((pl + 1 + seg.length : Nat) : Int) - ((pl : Int) + 1)).toNat = seg.length by omega]
      refine for_range (lo := (pl : Int) + 1) (n := seg.length) (fun i σ H' => H' = H ∧ ∃ (lo hi : Nat) (loi hii : Int) (v7 : Option V), loi = (lo : Int) ∧ hii = (hi : Int) ∧
          σ = [some (.ref a), some (.int (pl : Int)), some (.int (en : Int)), some (bv c), some (.int ((k + 1 : Nat) : Int)), some (.int loi), some (.int hii), v7] ∧ Um.fbad lo hi (pl + 1 + i) (seg.drop i) = R)
        ⟨rfl, Um.ls c.toNat, Um.hs c.toNat, _, _, none, rfl, rfl, rfl, hR⟩ ?_ ?_
      · rintro i σ H1 hi ⟨rfl, lo, hi', loi, hii, v7, rfl, rfl, rfl, hrun⟩
        have eb : seg[i]? = some seg[i] := List.getElem?_eq_getElem hi
        have eb2 := hat i hi
        have ed : seg.drop i = seg[i] :: seg.drop (i + 1) := List.drop_eq_getElem_cons hi
        rw [ed] at hrun
        generalize seg[i] = d at eb hrun
        rw [eb] at eb2
        have ei : ((pl : Int) + 1 + (i : Int)) = ((pl + 1 + i : Nat) : Int) := by omega
        have hix : atI (bs.map bv) ((pl : Int) + 1 + (i : Int)) = some (bv d) := at_of ei (by rw [List.getElem?_map, ← eb2]; rfl)
        unfold Um.fbad at hrun
        refine ⟨_, rfl, _, rfl, a, _, _, bv d, rfl, rfl, hs, hix, _, rfl, _, _, rfl, rfl, _, rfl, ?_⟩
        by_cases hb : d.toNat < lo ∨ hi' < d.toNat
        · rw [if_pos hb] at hrun
          subst hrun
          have q' : Err E CF (.int 5) (.int ((pl : Int) + 1 + (i : Int))) := by rw [ei]; exact q
          by_cases hb1 : d.toNat < lo
          · rw [decide_eq_true (show (d.toNat : Int) < (lo : Int) by omega)]
            exact ⟨_, rfl, _, _, rfl, q'⟩
          · rw [decide_eq_false (show ¬ (d.toNat : Int) < (lo : Int) by omega)]
            refine ⟨_, rfl, _, rfl, a, _, _, bv d, rfl, rfl, hs, hix, _, rfl, _, _, rfl, rfl, _, rfl, ?_⟩
            rw [decide_eq_true (show (hi' : Int) < (d.toNat : Int) by omega)]
            exact ⟨_, rfl, _, _, rfl, q'⟩
        · rw [if_neg hb] at hrun
          rw [decide_eq_false (show ¬ (d.toNat : Int) < (lo : Int) by omega)]
          refine ⟨_, rfl, _, rfl, a, _, _, bv d, rfl, rfl, hs, hix, _, rfl, _, _, rfl, rfl, _, rfl, ?_⟩
          rw [decide_eq_false (show ¬ (hi' : Int) < (d.toNat : Int) by omega)]
          refine iteF ?_
          exact ⟨rfl, 128, 191, _, _, _, rfl, rfl, rfl, by rw [← Nat.add_assoc]; exact hrun⟩
      · rintro σ H1 ⟨rfl, lo, hi', loi, hii, v7, rfl, rfl, rfl, hrun⟩
        rw [List.drop_of_length_le (Nat.le_refl _)] at hrun
        have hrun : none = R := hrun
        subst hrun
        have q' : Q (.int ((pl + 1 + k : Nat) : Int)) H1 := q
        have e9 : ((pl + 1 + k : Nat) : Int) = (pl : Int) + ((k + 1 : Nat) : Int) := by omega
        rw [e9] at q'
        exact ⟨_, rfl, _, rfl, _, _, rfl, rfl, q'⟩
theorem scCU : FnScope ["row", "start", "end", "place"] ["row", "start", "end"] (defScope sCU) := ⟨rfl, rfl, rfl, by decide +kernel, rfl, by decide +kernel, by decide +kernel⟩
theorem ok_CU {f fPS : Addr} {fd fdI fdS : FuncData} (F : Fun K "check_utf8" "check_utf8" sCU f fd) (T : TxR K mg CF CR fFI) (U : TxU mg) (FI : Fun K "__init__" "Fault.__init__" sFI fFI fdI) (bI : Binds K fdI ["self", "kind", "place"] [])
    (GS : FnOk P w K mg base (CXF P w) 3 fPS fdS ["row", "place", "end"] (spPS K CF)) (bS : Binds K fdS ["row", "place", "end"] []) (kS : PySem.W.keepIn K (.ref fPS) = true) (mS : mg "pass_scalar" = some (.ref fPS)) :
    FnOk P w K mg base (CXF P w) 4 f fd ["row", "start", "end"] (spCU K CF) := by
  have GI : FnOk P w K mg base CX0 1 fFI fdI ["self", "kind", "place"] (spXI CF) := ok_FI FI T
  refine okX F scCU (fun vs H Q E h => ?_) (fun cdv A outer s H vs Q E hr h => ?_)
  · obtain ⟨a, st, en, bs, rfl, _⟩ := h
    rfl
  · obtain ⟨a, st, en, bs, rfl, hs, h1, h2, h3, q⟩ := h
    have hr2 : Room 2 _ := hr.mono (by decide)
    refine ⟨_, pss_cons (ps_set (i := 3) scCU.nd rfl (Or.inl rfl) (pv 1))
      (pss_cons (ps_while PassesOwn.leaving (pt_cmpR op_lt (pv 3) (pv 2) (nomark _))
        (pss_one (ps_if (pt_cmpR op_lt (pe_ix ix_list (pv 0) (pv 3) (fun _ _ => rfl)) (pgi U.lf rfl) (nomark _))
          (pss_one (ps_aug (i := 3) scCU.nd rfl (Or.inl rfl) pe_int iop_add))
          (pss_one (ps_set (i := 3) scCU.nd rfl (Or.inl rfl) (pe_call GS hr rfl mS kS bS .nil passX (pa_cons (pv 0) (pa_cons (pv 3) (pa_cons (pv 2) pa_nil)))))))))
      (pss_one (ps_if (pt_cmpR op_gt (pv 3) (pv 2) (nomark _)) (pss_one (ps_raise T.xc GI bI hr2 flies_cx rfl rfl T.mF (pa_cons (pgi U.e5 rfl) (pa_cons (pv 2) pa_nil)))) pss_nil))), ?_⟩
    generalize hR : Um.urun 0 128 191 st ((bs.drop st).take (en - st)) = R at q
    refine ⟨_, rfl, fun n σ H' => H' = H ∧ ∃ pl : Nat, σ = [some (.ref a), some (.int (st : Int)), some (.int (en : Int)), some (.int (pl : Int))] ∧ n = en - pl ∧ ((pl ≤ en ∧ Um.urun 0 128 191 pl ((bs.drop pl).take (en - pl)) = R) ∨ (en < pl ∧ R = some en)),
      ⟨en - st, rfl, st, rfl, rfl, .inl ⟨h1, hR⟩⟩, ?_⟩
    rintro n σ H1 ⟨rfl, pl, rfl, hn, hcase⟩
    refine ⟨_, rfl, _, rfl, _, _, rfl, rfl, _, rfl, ?_⟩
    by_cases hlt : pl < en
    · rw [decide_eq_true (show (pl : Int) < (en : Int) by omega)]
      refine iteT ⟨_, fun σ' G' h => h, ?_⟩
      have hrun : Um.urun 0 128 191 pl ((bs.drop pl).take (en - pl)) = R := by
        rcases hcase with h | h
        · exact h.2
        · omega
      have lt : pl < bs.length := by omega
      have eb : bs[pl]? = some bs[pl] := List.getElem?_eq_getElem lt
      have ed : (bs.drop pl).take (en - pl) = bs[pl] :: (bs.drop (pl + 1)).take (en - (pl + 1)) := by
        rw [List.drop_eq_getElem_cons lt, show en - pl = (en - (pl + 1)) + 1 by omega, List.take_succ_cons]
      rw [ed] at hrun
      generalize bs[pl] = c at eb hrun
      unfold Um.urun at hrun
      rw [if_neg (Nat.lt_irrefl 0)] at hrun
      refine ⟨_, rfl, _, rfl, a, _, _, bv c, rfl, rfl, hs, atI_nat (by rw [List.getElem?_map, eb]; rfl), _, _, rfl, rfl, _, rfl, ?_⟩
      by_cases hc : 128 ≤ c.toNat
      · rw [decide_eq_false (show ¬ (c.toNat : Int) < (128 : Int) by omega)]
        rw [if_pos hc] at hrun
        refine iteF ⟨_, rfl, _, rfl, _, rfl, a, pl, en, c, bs, rfl, hs, eb, hlt, h2, h3, ?_⟩
        unfold psAt
        by_cases h0 : Um.cf c.toNat = 0
        · rw [if_pos h0] at hrun
          rw [if_pos h0]
          subst hrun
          exact q
        · rw [if_neg h0, Um.urun_further] at hrun
          rw [if_neg h0]
          cases hf : Um.fbad (Um.ls c.toNat) (Um.hs c.toNat) (pl + 1) (((bs.drop (pl + 1)).take (en - (pl + 1))).take (Um.cf c.toNat)) with
          | some z =>
            rw [hf] at hrun
            have hrun : some z = R := hrun
            subst hrun
            exact q
          | none =>
            rw [hf] at hrun
            have lsg : ((bs.drop (pl + 1)).take (en - (pl + 1))).length = en - (pl + 1) := by rw [List.length_take, List.length_drop]; omega
            have hrun : (if ((bs.drop (pl + 1)).take (en - (pl + 1))).length < Um.cf c.toNat then some (pl + 1 + ((bs.drop (pl + 1)).take (en - (pl + 1))).length) else Um.urun 0 128 191 (pl + 1 + Um.cf c.toNat) (((bs.drop (pl + 1)).take (en - (pl + 1))).drop (Um.cf c.toNat))) = R := hrun
            refine ⟨en - (pl + 1 + Um.cf c.toNat), by omega, rfl, pl + 1 + Um.cf c.toNat, rfl, rfl, ?_⟩
            rw [lsg] at hrun
            by_cases hl : en - (pl + 1) < Um.cf c.toNat
            · rw [if_pos hl, show pl + 1 + (en - (pl + 1)) = en by omega] at hrun
              exact .inr ⟨by omega, hrun.symm⟩
            · rw [if_neg hl] at hrun
              refine .inl ⟨by omega, ?_⟩
              rw [List.drop_take, List.drop_drop, show en - (pl + 1) - Um.cf c.toNat = en - (pl + 1 + Um.cf c.toNat) by omega] at hrun
              exact hrun
      · rw [decide_eq_true (show (c.toNat : Int) < (128 : Int) by omega)]
        rw [if_neg hc] at hrun
        refine iteT ⟨_, rfl, _, _, rfl, rfl, ?_⟩
        refine ⟨en - (pl + 1), by omega, rfl, pl + 1, rfl, rfl, .inl ⟨by omega, hrun⟩⟩
    · rw [decide_eq_false (show ¬ (pl : Int) < (en : Int) by omega)]
      refine iteF ⟨_, rfl, _, rfl, _, _, rfl, rfl, _, rfl, ?_⟩
      rcases hcase with ⟨h, hrun⟩ | ⟨h, hrun⟩
      · have e0 : pl = en := by omega
        subst e0
        rw [Nat.sub_self, List.take_zero] at hrun
        have hrun : none = R := hrun
        subst hrun
        rw [decide_eq_false (show ¬ (pl : Int) < (pl : Int) by omega)]
        exact iteF q
      · subst hrun
        rw [decide_eq_true (show (en : Int) < (pl : Int) by omega)]
        exact iteT ⟨_, rfl, _, _, rfl, q⟩
end
end L2.J

set_option Elab.async false
set_option linter.all false
set_option maxRecDepth 100000
set_option maxHeartbeats 2000000
namespace L2.J
open PySem PySem.Spec PyProof.Rows L2.XC
abbrev PD := Pm.PD
abbrev PT := Pm.PT
/-- a part's attributes; n, l: where its name and its members' list stand -/
def pf (d : PD) (n l : Addr) : List (Str × V) := [("kind", .int (d.kind : Int)), ("place", .int (d.place : Int)), ("inside", .int (d.ins : Int)), ("end", .int (d.fin : Int)), ("size", .int (d.size : Int)), ("depth", .int (d.depth : Int)),
  ("name_place", .int (d.np : Int)), ("name", .ref n), ("members", .ref l)]
def PtAt (CP : Addr) (H : Hp) (a : Addr) (d : PD) (n l : Addr) : Prop := ∃ dx, H a = some (.ins CP dx (pf d n l))
structure TxP (K : PySem.W.Frag) (mg : Str → Option Value) (CP : Addr) : Prop where
  cP : Cls K CP
  nKi : NoAttr K CP "kind"
  nPl : NoAttr K CP "place"
  nIn : NoAttr K CP "inside"
  nEn : NoAttr K CP "end"
  nSi : NoAttr K CP "size"
  nDe : NoAttr K CP "depth"
  nNp : NoAttr K CP "name_place"
  nNl : NoAttr K CP "name"
  nMe : NoAttr K CP "members"
  ln : GI mg "LONGEST_NAME" 255
  e6 : GI mg "WRONG_NAME" 6
/-- all that was tracked is as it was, but what stands at r and at m -/
def Kp2 (H H' : Hp) (r m : Addr) : Prop := ∀ b o, H b = some o → b ≠ r → b ≠ m → H' b = some o
theorem pt_ne_rd' {CP CR : Addr} {G : Hp} {a n l r b dx : Addr} {d : PD} {p : Nat} (h : G a = some (.ins CP dx (pf d n l))) (h' : RdAt CR G r b p) : a ≠ r := by
  obtain ⟨dy, h'⟩ := h'
  exact ne_of h h' (by intro z; injection z with _ _ z3; exact absurd (congrArg List.length z3) (by show ¬ 9 = 2; decide))
structure TxN (mg : Str → Option Value) : Prop where
  ln : GI mg "LONGEST_NUMBER" 4096
  e4 : GI mg "WRONG_NUMBER" 4
  tx : GI mg "TEXT" 4
def spPN (K : PySem.W.Frag) (CF CR CP : Addr) : Sp := fun vs H Q E => ∃ (r a m nm lm : Addr) (p : Nat) (d : PD) (bs : List UInt8), vs = [.ref r, .ref m] ∧ RdAt CR H r a p ∧ SqL K H a (bs.map bv) ∧ PtAt CP H m d nm lm ∧ p ≤ bs.length ∧
  Out E CF (Hm.numAt d.place p (bs.drop p)) fun (x : Nat × Nat) => ∀ H' : Hp, RdAt CR H' r a (p + x.1 + x.2) → PtAt CP H' m { d with ins := p + x.1 } nm lm → Kp2 H H' r m → Q .non H'
def spPR (K : PySem.W.Frag) (CF CR CP : Addr) : Sp := fun vs H Q E => ∃ (r a m nm lm : Addr) (p : Nat) (d : PD) (bs : List UInt8), vs = [.ref r, .ref m] ∧ RdAt CR H r a p ∧ SqL K H a (bs.map bv) ∧ PtAt CP H m d nm lm ∧ p ≤ bs.length ∧ bs.length ≤ 65536 ∧
  Out E CF (Hm.strAt (decide (d.kind = 4)) p (bs.drop p)) fun (x : Nat × Nat) => ∀ H' : Hp, RdAt CR H' r a (p + x.2 + x.1) → PtAt CP H' m { d with size := x.1, ins := p + x.2 } nm lm → Kp2 H H' r m → Q .non H'
/-- and, or of tests that leave the heap as it is -/
theorem tand_of {tA tB : TT} {σ : St} {H : Hp} {Q : Bool → Hp → Prop} {a b : Bool} (ha : ∀ Q' : Bool → Hp → Prop, Q' a H → tA σ H Q') (hb : a = true → ∀ Q' : Bool → Hp → Prop, Q' b H → tB σ H Q') (q : Q (a && b) H) : tAnd tA tB σ H Q := by
  refine ha _ ?_
  cases a with
  | true => exact iteT (hb rfl _ q)
  | false => exact iteF q
theorem tor_of {tA tB : TT} {σ : St} {H : Hp} {Q : Bool → Hp → Prop} {a b : Bool} (ha : ∀ Q' : Bool → Hp → Prop, Q' a H → tA σ H Q') (hb : a = false → ∀ Q' : Bool → Hp → Prop, Q' b H → tB σ H Q') (q : Q (a || b) H) : tOr tA tB σ H Q := by
  refine ha _ ?_
  cases a with
  | true => exact iteT q
  | false => exact iteF (hb rfl _ q)
theorem seq_or {tA tB : TT} {t u rest : TS} {D : Ends} {σ : St} {H : Hp} {a b : Bool} (ha : ∀ Q' : Bool → Hp → Prop, Q' a H → tA σ H Q') (hb : a = false → ∀ Q' : Bool → Hp → Prop, Q' b H → tB σ H Q')
    (q : if (a || b) = true then t { D with nx := rest D } σ H else u { D with nx := rest D } σ H) : tSeq (tIfS (tOr tA tB) t u) rest D σ H :=
  tor_of (tA := tA) (tB := tB) (Q := fun c H1 => if c = true then t { D with nx := rest D } σ H1 else u { D with nx := rest D } σ H1) ha hb q
theorem if_and {tA tB : TT} {t u : TS} {D : Ends} {σ : St} {H : Hp} {a b : Bool} (ha : ∀ Q' : Bool → Hp → Prop, Q' a H → tA σ H Q') (hb : a = true → ∀ Q' : Bool → Hp → Prop, Q' b H → tB σ H Q')
    (q : if (a && b) = true then t D σ H else u D σ H) : tIfS (tAnd tA tB) t u D σ H :=
  tand_of (tA := tA) (tB := tB) (Q := fun c H1 => if c = true then t D σ H1 else u D σ H1) ha hb q
theorem dint {x y : Int} : decide (V.int x = V.int y) = decide (x = y) := by
  by_cases h : x = y
  · rw [h, decide_eq_true rfl, decide_eq_true rfl]
  · rw [decide_eq_false h, decide_eq_false (fun z => h (by injection z))]
section
variable {P : Program} {w : World} {K : PySem.W.Frag} {mg : Str → Option Value} {base : Heap} {CF CR CP fFI : Addr}
theorem scPN : FnScope ["reader", "part", "told", "length", "below_0"] ["reader", "part"] (defScope sPN) := ⟨rfl, rfl, rfl, by decide +kernel, rfl, by decide +kernel, by decide +kernel⟩
/-- the reader's methods, as they are promised -/
structure RdOk (P : Program) (w : World) (K : PySem.W.Frag) (mg : Str → Option Value) (base : Heap) (CF CR fRV fPB fRB : Addr) (fdV fdP fdB : FuncData) : Prop where
  gV : FnOk P w K mg base (CXF P w) 5 fRV fdV ["self"] (spRV K CF CR)
  bV : Binds K fdV ["self"] []
  mV : Meth K CR "read_varying" fRV
  gP : FnOk P w K mg base (CXF P w) 3 fPB fdP ["self", "how_many"] (spPB K CF CR)
  bP : Binds K fdP ["self", "how_many"] []
  mP : Meth K CR "pass_bytes" fPB
  gB : FnOk P w K mg base (CXF P w) 4 fRB fdB ["self"] (spRB K CF CR)
  bB : Binds K fdB ["self"] []
  mB : Meth K CR "read_byte" fRB
variable {fRV fPB fRB : Addr} {fdV fdP fdB : FuncData}
theorem ok_PN {f : Addr} {fd fdI : FuncData} (F : Fun K "pass_number" "pass_number" sPN f fd) (T : TxR K mg CF CR fFI) (TP : TxP K mg CP) (N : TxN mg) (GI : FnOk P w K mg base CX0 1 fFI fdI ["self", "kind", "place"] (spXI CF)) (bI : Binds K fdI ["self", "kind", "place"] [])
    (R : RdOk P w K mg base CF CR fRV fPB fRB fdV fdP fdB) : FnOk P w K mg base (CXF P w) 6 f fd ["reader", "part"] (spPN K CF CR CP) := by
  refine okX F scPN (fun vs H Q E h => ?_) (fun cdv A outer s H vs Q E hr h => ?_)
  · obtain ⟨r, a, m, nm, lm, p, d, bs, rfl, _⟩ := h
    rfl
  · obtain ⟨r, a, m, nm, lm, p, d, bs, rfl, ⟨dx, hr1⟩, hs, ⟨xm, hm⟩, hp, q⟩ := h
    have hr2 : Room 2 _ := hr.mono (by decide)
    have hr3 : Room 3 _ := hr.mono (by decide)
    refine ⟨_, pss_cons (ps_set (i := 2) scPN.nd rfl (Or.inl rfl) (pe_meth0 (pv 0) T.cR R.mV R.gV hr R.bV .nil passX))
      (pss_cons (ps_set (i := 3) scPN.nd rfl (Or.inl rfl) (pe_op op_fdiv (pv 2) pe_int))
      (pss_cons (ps_set (i := 4) scPN.nd rfl (Or.inl rfl) (pe_cmpR op_eq (pe_op op_mod (pv 2) pe_int) pe_int (nomark _)))
      (pss_cons (ps_if (PW.pt (pw_or (pt_cmpR op_gt (pv 3) (pgi N.ln rfl) (nomark _)) (pw_or1 (PW.pt (pw_and (pt_cmpR op_eq (pv 3) pe_int (nomark _)) (pw_and1 (pt_truth (pv 4) (fun _ => rfl))))))))
        (pss_one (ps_raise T.xc GI bI hr2 flies_cx rfl rfl T.mF (pa_cons (pgi N.e4 rfl) (pa_cons (pe_fld (pv 1) rfl) pa_nil)))) pss_nil)
      (pss_cons (ps_fld (pv 1) (pe_meth (pv 0) T.cR R.mP R.gP hr3 R.bP .nil passX (pa_cons (pv 3) pa_nil)) rfl)
      (pss_one (ps_if (PW.pt (pw_and (pt_cmpR op_gt (pv 3) pe_int (nomark _)) (pw_and1 (pt_cmpR op_eq (pe_ix ix_list (pe_fld (pv 0) rfl) (pe_op op_sub (pe_fld (pv 0) rfl) pe_int) (fun _ _ => rfl)) pe_int (nomark _)))))
        (pss_one (ps_raise T.xc GI bI hr2 flies_cx rfl rfl T.mF (pa_cons (pgi N.e4 rfl) (pa_cons (pe_fld (pv 1) rfl) pa_nil)))) pss_nil)))))), ?_⟩
    have nmr : m ≠ r := pt_ne_rd' hm ⟨dx, hr1⟩
    refine ⟨_, rfl, r, dx, _, rfl, hr1, rf_no a p (by decide +kernel) (by decide +kernel), r, a, p, bs, rfl, ⟨dx, hr1⟩, hs, hp, ?_⟩
    unfold Hm.numAt at q
    cases ev : Sw.varyOf p (bs.drop p) with
    | error e =>
      rw [ev] at q
      exact q
    | ok zl =>
      obtain ⟨z, l⟩ := zl
      rw [ev] at q
      obtain ⟨u1, u2, u3, u4⟩ := Vm.vary_used ev
      rw [List.length_drop] at u2
      rintro H1 ⟨dx1, h1⟩ k1
      have sq1 := sq_kp hs k1 hr1
      have hm1 := k1 _ _ hm nmr
      have ez : ((z : Int) / 2) = ((z / 2 : Nat) : Int) := by omega
      refine ⟨_, rfl, _, _, rfl, rfl, ⟨by decide, by decide⟩, ?_⟩
      refine ⟨_, rfl, _, _, rfl, rfl, (by show (0 : Int) < 2; decide), rfl, ?_⟩
      dsimp only at q
      dsimp only [gName]
      refine seq_or (fun Q' h => ⟨_, rfl, _, _, rfl, rfl, _, rfl, h⟩) (fun _ Q' h => tand_of (fun Q' h => ⟨_, rfl, rfl, _, rfl, h⟩) (fun _ Q' h => ⟨_, rfl, _, rfl, h⟩) h) ?_
      rw [dint, dint]
      refine ite2 (fun c => ?_) (fun c => ?_)
      · refine ⟨_, rfl, m, CP, xm, _, _, rfl, hm1, TP.cP, TP.nPl, rfl, _, _, rfl, ?_⟩
        simp only [Bool.or_eq_true, Bool.and_eq_true, decide_eq_true_eq] at c
        by_cases c1 : Sw.NUMBER < z / 2
        · rw [if_pos c1] at q
          exact q
        · have c1' : ¬ 4096 < z / 2 := c1
          have z1 : z = 1 := by omega
          rw [if_neg c1, Hm.some_of (by omega)] at q
          dsimp only at q
          rw [if_pos (.inr z1)] at q
          exact q
      · simp only [Bool.or_eq_true, Bool.and_eq_true, decide_eq_true_eq, not_or, not_and] at c
        have c1 : ¬ Sw.NUMBER < z / 2 := by
          show ¬ 4096 < z / 2
          omega
        have z1 : ¬ z = 1 := by omega
        rw [if_neg c1] at q
        refine ⟨_, rfl, r, dx1, _, rfl, h1, rf_no a (p + l) (by decide +kernel) (by decide +kernel), _, rfl, r, a, p + l, z / 2, bs, by rw [ez]; rfl, ⟨dx1, h1⟩, sq1, by omega, ?_⟩
        by_cases c2 : bs.length - (p + l) < z / 2
        · rw [if_pos c2]
          rw [Hm.some_no (by rw [List.length_drop, List.length_drop]; omega)] at q
          have e3 : p + l + ((bs.drop p).drop l).length = bs.length := by rw [List.length_drop, List.length_drop]; omega
          have q' : Err E CF (.int 1) (.int ((p + l + ((bs.drop p).drop l).length : Nat) : Int)) := q
          rw [e3] at q'
          exact q'
        · rw [if_neg c2]
          have hle : z / 2 ≤ ((bs.drop p).drop l).length := by rw [List.length_drop, List.length_drop]; omega
          rw [Hm.some_of hle] at q
          dsimp only at q
          rintro H2 ⟨dx2, h2⟩ k2
          have sq2 := sq_kp sq1 k2 h1
          have hm2 := k2 _ _ hm1 nmr
          refine ⟨_, rfl, m, CP, xm, _, rfl, hm2, TP.cP, TP.nIn, (by show 9 < 1000; decide), ?_⟩
          generalize hH3 : upd H2 m (.ins CP xm (putF "inside" (.int ((p + l : Nat) : Int)) (pf d nm lm))) = H3
          have hm3 : H3 m = some (.ins CP xm (pf { d with ins := p + l } nm lm)) := by rw [← hH3, upd_same]; rfl
          have k3 : ∀ b o, H2 b = some o → b ≠ m → H3 b = some o := fun b o e n => by rw [← hH3, upd_ne n]; exact e
          have h3 := k3 _ _ h2 (Ne.symm nmr)
          have sq3 : SqL K H3 a (bs.map bv) := sq_kp (r := m) sq2 (fun b o e n => k3 b o e n) hm2
          have kk : Kp2 H H3 r m := fun b o e n1 n2 => k3 b o (k2 b o (k1 b o e n1) n1) n2
          by_cases c3 : 0 < z / 2
          · have eL : (((bs.drop p).drop l).take (z / 2)).getLast? = bs[p + l + z / 2 - 1]? := by
              rw [Hm.last_of hle c3, List.drop_drop, List.getElem?_drop]
              congr 1
              omega
            have lt : p + l + z / 2 - 1 < bs.length := by omega
            have eb : bs[p + l + z / 2 - 1]? = some bs[p + l + z / 2 - 1] := List.getElem?_eq_getElem lt
            generalize bs[p + l + z / 2 - 1] = c at eb
            have ei : ((p + l + z / 2 : Nat) : Int) - 1 = ((p + l + z / 2 - 1 : Nat) : Int) := by omega
            dsimp only
            refine if_and (fun Q' h => ⟨_, rfl, _, _, rfl, rfl, _, rfl, h⟩) (fun _ Q' h => ⟨_, rfl, r, CR, dx2, _, _, rfl, h3, T.cR, T.nRow, rf_row a _, _, rfl, r, CR, dx2, _, _, rfl, h3, T.cR, T.nPl, rf_place a _, _, _, rfl, rfl,
              a, _, _, bv c, rfl, rfl, sq3, at_of ei (by rw [List.getElem?_map, eb]; rfl), rfl, _, rfl, h⟩) ?_
            rw [decide_eq_true (show (0 : Int) < (z : Int) / 2 by omega), Bool.true_and]
            have c0 : (V.int (c.toNat : Int) = V.int 0) ↔ c = 0 := by
              constructor
              · intro hh0
                injection hh0 with hh0
                exact UInt8.toNat_inj.mp (by show c.toNat = 0; omega)
              · intro hh0
                rw [hh0]
                rfl
            by_cases c4 : c = 0
            · rw [decide_eq_true (show bv c = V.int 0 from c0.mpr c4)]
              rw [if_pos (.inl (by rw [eL, eb, c4]))] at q
              exact iteT ⟨_, rfl, m, CP, xm, _, _, rfl, hm3, TP.cP, TP.nPl, rfl, _, _, rfl, q⟩
            · rw [decide_eq_false (show ¬ bv c = V.int 0 from fun h => c4 (c0.mp h))]
              rw [if_neg (fun h => h.elim (fun h => c4 (Option.some.inj ((eL.trans eb).symm.trans h))) z1)] at q
              exact iteF (q H3 ⟨dx2, h3⟩ ⟨xm, hm3⟩ kk)
          · have z0 : z / 2 = 0 := by omega
            refine ⟨_, rfl, _, _, rfl, rfl, _, rfl, ?_⟩
            rw [decide_eq_false (show ¬ (0 : Int) < (z : Int) / 2 by omega)]
            rw [if_neg (fun h => h.elim (fun h => by rw [z0, List.take_zero] at h; cases h) z1)] at q
            exact iteF (iteF (q H3 ⟨dx2, h3⟩ ⟨xm, hm3⟩ kk))
end
end L2.J

set_option Elab.async false
set_option linter.all false
set_option maxRecDepth 100000
set_option maxHeartbeats 2000000
namespace L2.J
open PySem PySem.Spec PyProof.Rows L2.XC
def spIB (K : PySem.W.Frag) (CP : Addr) : Sp := fun vs H Q _ => ∃ (a m n l : Addr) (d : PD) (bs : List UInt8), vs = [.ref a, .ref m] ∧ SqL K H a (bs.map bv) ∧ PtAt CP H m d n l ∧ d.ins ≤ d.fin ∧ d.fin ≤ bs.length ∧
  ∀ x, H x = none → Q (.ref x) (upd H x (.lst (((bs.drop d.ins).take (d.fin - d.ins)).map bv)))
/-- what is known of the last member's name -/
def Last (CP : Addr) (H : Hp) (ms : List Addr) (prev : Option (List UInt8)) : Prop := match ms.getLast? with
  | none => prev = none
  | some m => ∃ d n l q, PtAt CP H m d n l ∧ H n = some (.lst (q.map bv)) ∧ prev = some q
def spRN (K : PySem.W.Frag) (CF CR CP : Addr) : Sp := fun vs H Q E => ∃ (r a h n l : Addr) (p : Nat) (bs : List UInt8) (d : PD) (ms : List Addr) (prev : Option (List UInt8)), vs = [.ref r, .ref h] ∧ RdAt CR H r a p ∧ SqL K H a (bs.map bv) ∧ p ≤ bs.length ∧ bs.length ≤ 65536 ∧
  PtAt CP H h d n l ∧ H l = some (.lst (ms.map V.ref)) ∧ Last CP H ms prev ∧ (∀ m ∈ ms, m ≠ r) ∧
  Out E CF (Hm.nameAt prev p (bs.drop p)) fun (x : Nat × Nat) => ∀ H' : Hp, RdAt CR H' r a (p + x.2 + x.1) → Kp H H' r → Q (.int ((p + x.2 : Nat) : Int)) H'
section
variable {P : Program} {w : World} {K : PySem.W.Frag} {mg : Str → Option Value} {base : Heap} {CF CR CP fFI : Addr} {fRV fPB fRB : Addr} {fdV fdP fdB : FuncData}
theorem scPR : FnScope ["reader", "part"] ["reader", "part"] (defScope sPR) := ⟨rfl, rfl, rfl, by decide +kernel, rfl, by decide +kernel, by decide +kernel⟩
theorem ok_PR {f fCU : Addr} {fd fdU : FuncData} (F : Fun K "pass_row" "pass_row" sPR f fd) (T : TxR K mg CF CR fFI) (TP : TxP K mg CP) (N : TxN mg) (R : RdOk P w K mg base CF CR fRV fPB fRB fdV fdP fdB)
    (GU : FnOk P w K mg base (CXF P w) 4 fCU fdU ["row", "start", "end"] (spCU K CF)) (bU : Binds K fdU ["row", "start", "end"] []) (kU : PySem.W.keepIn K (.ref fCU) = true) (mU : mg "check_utf8" = some (.ref fCU)) :
    FnOk P w K mg base (CXF P w) 6 f fd ["reader", "part"] (spPR K CF CR CP) := by
  refine okX F scPR (fun vs H Q E h => ?_) (fun cdv A outer s H vs Q E hr h => ?_)
  · obtain ⟨r, a, m, nm, lm, p, d, bs, rfl, _⟩ := h
    rfl
  · obtain ⟨r, a, m, nm, lm, p, d, bs, rfl, ⟨dx, hr1⟩, hs, ⟨xm, hm⟩, hp, hz, q⟩ := h
    have hr3 : Room 3 _ := hr.mono (by decide)
    have hr4 : Room 4 _ := hr.mono (by decide)
    refine ⟨_, pss_cons (ps_fld (pv 1) (pe_meth0 (pv 0) T.cR R.mV R.gV hr R.bV .nil passX) rfl)
      (pss_cons (ps_fld (pv 1) (pe_meth (pv 0) T.cR R.mP R.gP hr3 R.bP .nil passX (pa_cons (pe_fld (pv 1) rfl) pa_nil)) rfl)
      (pss_one (ps_if (pt_cmpR op_eq (pe_fld (pv 1) rfl) (pgi N.tx rfl) (nomark _)) (pss_one (ps_expr (pe_call GU hr4 rfl mU kU bU .nil passX (pa_cons (pe_fld (pv 0) rfl) (pa_cons (pe_fld (pv 1) rfl) (pa_cons (pe_fld (pv 0) rfl) pa_nil)))))) pss_nil))), ?_⟩
    have nmr : m ≠ r := pt_ne_rd' hm ⟨dx, hr1⟩
    refine ⟨_, rfl, r, dx, _, rfl, hr1, rf_no a p (by decide +kernel) (by decide +kernel), r, a, p, bs, rfl, ⟨dx, hr1⟩, hs, hp, ?_⟩
    unfold Hm.strAt at q
    cases ev : Sw.varyOf p (bs.drop p) with
    | error e =>
      rw [ev] at q
      exact q
    | ok zl =>
      obtain ⟨n, l⟩ := zl
      rw [ev] at q
      obtain ⟨u1, u2, u3, u4⟩ := Vm.vary_used ev
      rw [List.length_drop] at u2
      rintro H1 ⟨dx1, h1⟩ k1
      have sq1 := sq_kp hs k1 hr1
      have hm1 := k1 _ _ hm nmr
      dsimp only at q
      refine ⟨_, rfl, m, CP, xm, _, rfl, hm1, TP.cP, TP.nSi, (by show 9 < 1000; decide), ?_⟩
      generalize hH2 : upd H1 m (.ins CP xm (putF "size" (.int (n : Int)) (pf d nm lm))) = H2
      have hm2 : H2 m = some (.ins CP xm (pf { d with size := n } nm lm)) := by rw [← hH2, upd_same]; rfl
      have k2 : ∀ b o, H1 b = some o → b ≠ m → H2 b = some o := fun b o e n => by rw [← hH2, upd_ne n]; exact e
      have h2 := k2 _ _ h1 (Ne.symm nmr)
      have sq2 : SqL K H2 a (bs.map bv) := sq_kp (r := m) sq1 (fun b o e n => k2 b o e n) hm1
      refine ⟨_, rfl, r, dx1, _, rfl, h2, rf_no a (p + l) (by decide +kernel) (by decide +kernel), _, rfl, m, CP, xm, _, _, rfl, hm2, TP.cP, TP.nSi, rfl, r, a, p + l, n, bs, rfl, ⟨dx1, h2⟩, sq2, by omega, ?_⟩
      by_cases c2 : bs.length - (p + l) < n
      · rw [if_pos c2]
        rw [Hm.some_no (by rw [List.length_drop, List.length_drop]; omega)] at q
        have e3 : p + l + ((bs.drop p).drop l).length = bs.length := by rw [List.length_drop, List.length_drop]; omega
        have q' : Err E CF (.int 1) (.int ((p + l + ((bs.drop p).drop l).length : Nat) : Int)) := q
        rw [e3] at q'
        exact q'
      · rw [if_neg c2]
        have hle : n ≤ ((bs.drop p).drop l).length := by rw [List.length_drop, List.length_drop]; omega
        rw [Hm.some_of hle] at q
        dsimp only at q
        rintro H3 ⟨dx3, h3⟩ k3
        have sq3 := sq_kp sq2 k3 h2
        have hm3 := k3 _ _ hm2 nmr
        refine ⟨_, rfl, m, CP, xm, _, rfl, hm3, TP.cP, TP.nIn, (by show 9 < 1000; decide), ?_⟩
        generalize hH4 : upd H3 m (.ins CP xm (putF "inside" (.int ((p + l : Nat) : Int)) (pf { d with size := n } nm lm))) = H4
        have hm4 : H4 m = some (.ins CP xm (pf { d with size := n, ins := p + l } nm lm)) := by rw [← hH4, upd_same]; rfl
        have k4 : ∀ b o, H3 b = some o → b ≠ m → H4 b = some o := fun b o e n => by rw [← hH4, upd_ne n]; exact e
        have h4 := k4 _ _ h3 (Ne.symm nmr)
        have sq4 : SqL K H4 a (bs.map bv) := sq_kp (r := m) sq3 (fun b o e n => k4 b o e n) hm3
        have kk : Kp2 H H4 r m := fun b o e n1 n2 => k4 b o (k3 b o (k2 b o (k1 b o e n1) n2) n1) n2
        refine ⟨_, rfl, m, CP, xm, _, _, rfl, hm4, TP.cP, TP.nKi, rfl, rfl, _, rfl, ?_⟩
        rw [dint]
        by_cases c3 : d.kind = 4
        · rw [decide_eq_true (show (d.kind : Int) = 4 by omega)]
          rw [if_pos (decide_eq_true c3)] at q
          refine iteT ?_
          refine ⟨_, rfl, r, CR, dx3, _, _, rfl, h4, T.cR, T.nRow, rf_row a _, _, rfl, m, CP, xm, _, _, rfl, hm4, TP.cP, TP.nIn, rfl, _, rfl, r, CR, dx3, _, _, rfl, h4, T.cR, T.nPl, rf_place a _, a, p + l, p + l + n, bs, rfl, sq4, by omega, by omega, hz, ?_⟩
          have tr := Um.text_run (p + l) (((bs.drop p).drop l).take n)
          rw [List.drop_drop] at tr q
          rw [show p + l + n - (p + l) = n by omega]
          cases et : Sw.textOf (p + l) ((bs.drop (p + l)).take n) with
          | error e =>
            rw [et] at tr q
            obtain ⟨t1, t2⟩ := tr
            rw [t2]
            have q' : Err E CF (.int (e.kind : Int)) (.int (e.place : Int)) := q
            rw [t1] at q'
            exact q'
          | ok t =>
            rw [et] at tr q
            rw [tr]
            exact q H4 ⟨dx3, h4⟩ ⟨xm, hm4⟩ kk
        · rw [decide_eq_false (show ¬ (d.kind : Int) = 4 by omega)]
          rw [if_neg (by rw [decide_eq_false c3]; exact Bool.false_ne_true)] at q
          exact iteF (q H4 ⟨dx3, h4⟩ ⟨xm, hm4⟩ kk)
theorem scRN : FnScope ["reader", "holder", "told_at", "length", "first"] ["reader", "holder"] (defScope sRN) := ⟨rfl, rfl, rfl, by decide +kernel, rfl, by decide +kernel, by decide +kernel⟩
theorem ok_RN {f fCU : Addr} {fd fdI fdU : FuncData} (F : Fun K "read_name" "read_name" sRN f fd) (T : TxR K mg CF CR fFI) (TP : TxP K mg CP) (GI : FnOk P w K mg base CX0 1 fFI fdI ["self", "kind", "place"] (spXI CF)) (bI : Binds K fdI ["self", "kind", "place"] [])
    (R : RdOk P w K mg base CF CR fRV fPB fRB fdV fdP fdB)
    (GU : FnOk P w K mg base (CXF P w) 4 fCU fdU ["row", "start", "end"] (spCU K CF)) (bU : Binds K fdU ["row", "start", "end"] []) (kU : PySem.W.keepIn K (.ref fCU) = true) (mU : mg "check_utf8" = some (.ref fCU)) :
    FnOk P w K mg base (CXF P w) 6 f fd ["reader", "holder"] (spRN K CF CR CP) := by
  refine okX F scRN (fun vs H Q E h => ?_) (fun cdv A outer s H vs Q E hr h => ?_)
  · obtain ⟨r, a, h, n, l, p, bs, d, ms, prev, rfl, _⟩ := h
    rfl
  · obtain ⟨r, a, h, nh, ll, p, bs, d, ms, prev, rfl, ⟨dx, hr1⟩, hs, hp, hz, ⟨dh, hh⟩, hl, hlast, hne, q⟩ := h
    have hr1' : Room 1 _ := hr.mono (by decide)
    have hr2 : Room 2 _ := hr.mono (by decide)
    have hr3 : Room 3 _ := hr.mono (by decide)
    have hr4 : Room 4 _ := hr.mono (by decide)
    refine ⟨_, pss_cons (ps_set (i := 2) scRN.nd rfl (Or.inl rfl) (pe_fld (pv 0) rfl))
      (pss_cons (ps_set (i := 3) scRN.nd rfl (Or.inl rfl) (pe_meth0 (pv 0) T.cR R.mV R.gV hr R.bV .nil passX))
      (pss_cons (ps_if (PW.pt (pw_or (pt_cmpR op_eq (pv 3) pe_int (nomark _)) (pw_or1 (pt_cmpR op_gt (pv 3) (pgi TP.ln rfl) (nomark _)))))
        (pss_one (ps_raise T.xc GI bI hr2 flies_cx rfl rfl T.mF (pa_cons (pgi TP.e6 rfl) (pa_cons (pv 2) pa_nil)))) pss_nil)
      (pss_cons (ps_set (i := 4) scRN.nd rfl (Or.inl rfl) (pe_meth (pv 0) T.cR R.mP R.gP hr3 R.bP .nil passX (pa_cons (pv 3) pa_nil)))
      (pss_cons (ps_expr (pe_call GU hr4 rfl mU kU bU .nil passX (pa_cons (pe_fld (pv 0) rfl) (pa_cons (pv 4) (pa_cons (pe_fld (pv 0) rfl) pa_nil)))))
      (pss_cons (ps_if (PW.pt (pw_and (pt_truth (pe_fld (pv 1) rfl) (fun _ => rfl)) (pw_and1 (pt_cmpR (op_leL hr.units0) (pe_slice sl_list (pe_fld (pv 0) rfl) (po_some (pv 4)) (po_some (pe_fld (pv 0) rfl))) (pe_fld (pe_ix ix_list (pe_fld (pv 1) rfl) (pe_un un_neg pe_int) (fun _ _ => rfl)) rfl) (nomark _)))))
          (pss_one (ps_raise T.xc GI bI hr2 flies_cx rfl rfl T.mF (pa_cons (pgi TP.e6 rfl) (pa_cons (pv 2) pa_nil)))) pss_nil)
      (pss_one (ps_ret (pv 4)))))))), ?_⟩
    have nhr : h ≠ r := ne_of hh hr1 (by intro z; injection z with _ _ z3; exact absurd (congrArg List.length z3) (by show ¬ 9 = 2; decide))
    have nlr : ll ≠ r := ne_of hl hr1 (by intro z; cases z)
    refine ⟨_, rfl, r, CR, dx, _, _, rfl, hr1, T.cR, T.nPl, rf_place a p, ?_⟩
    refine ⟨_, rfl, r, dx, _, rfl, hr1, rf_no a p (by decide +kernel) (by decide +kernel), r, a, p, bs, rfl, ⟨dx, hr1⟩, hs, hp, ?_⟩
    unfold Hm.nameAt at q
    cases ev : Sw.varyOf p (bs.drop p) with
    | error e =>
      rw [ev] at q
      exact q
    | ok zl =>
      obtain ⟨k, l⟩ := zl
      rw [ev] at q
      obtain ⟨u1, u2, u3, u4⟩ := Vm.vary_used ev
      rw [List.length_drop] at u2
      rintro H1 ⟨dx1, h1⟩ k1
      have sq1 := sq_kp hs k1 hr1
      dsimp only at q
      dsimp only [gName]
      refine seq_or (fun Q' h => ⟨_, rfl, rfl, _, rfl, h⟩) (fun _ Q' h => ⟨_, rfl, _, _, rfl, rfl, _, rfl, h⟩) ?_
      rw [dint]
      refine ite2 (fun c => ?_) (fun c => ?_)
      · refine ⟨_, rfl, _, _, rfl, ?_⟩
        simp only [Bool.or_eq_true, decide_eq_true_eq] at c
        rw [if_pos (by show k = 0 ∨ 255 < k; omega)] at q
        exact q
      · simp only [Bool.or_eq_true, decide_eq_true_eq, not_or] at c
        rw [if_neg (by show ¬ (k = 0 ∨ 255 < k); omega)] at q
        refine ⟨_, rfl, r, dx1, _, rfl, h1, rf_no a (p + l) (by decide +kernel) (by decide +kernel), _, rfl, r, a, p + l, k, bs, rfl, ⟨dx1, h1⟩, sq1, by omega, ?_⟩
        by_cases c2 : bs.length - (p + l) < k
        · rw [if_pos c2]
          rw [Hm.some_no (by rw [List.length_drop, List.length_drop]; omega)] at q
          have e3 : p + l + ((bs.drop p).drop l).length = bs.length := by rw [List.length_drop, List.length_drop]; omega
          have q' : Err E CF (.int 1) (.int ((p + l + ((bs.drop p).drop l).length : Nat) : Int)) := q
          rw [e3] at q'
          exact q'
        · rw [if_neg c2]
          have hle : k ≤ ((bs.drop p).drop l).length := by rw [List.length_drop, List.length_drop]; omega
          rw [Hm.some_of hle] at q
          dsimp only at q
          rintro H2 ⟨dx2, h2⟩ k2
          have sq2 := sq_kp sq1 k2 h1
          have k12 := k1.trans k2
          have hh2 := k12 _ _ hh nhr
          have hl2 := k12 _ _ hl nlr
          refine ⟨_, rfl, r, CR, dx2, _, _, rfl, h2, T.cR, T.nRow, rf_row a _, _, rfl, _, rfl, r, CR, dx2, _, _, rfl, h2, T.cR, T.nPl, rf_place a _, a, p + l, p + l + k, bs, rfl, sq2, by omega, by omega, hz, ?_⟩
          have tr := Um.text_run (p + l) (((bs.drop p).drop l).take k)
          rw [List.drop_drop] at tr q
          rw [show p + l + k - (p + l) = k by omega]
          cases et : Sw.textOf (p + l) ((bs.drop (p + l)).take k) with
          | error e =>
            rw [et] at tr q
            obtain ⟨t1, t2⟩ := tr
            rw [t2]
            have q' : Err E CF (.int (e.kind : Int)) (.int (e.place : Int)) := q
            rw [t1] at q'
            exact q'
          | ok t =>
            rw [et] at tr q
            rw [tr]
            dsimp only at q
            refine ⟨_, rfl, h, CP, dh, _, _, rfl, hh2, TP.cP, TP.nMe, rfl, _, .inl ⟨_, SqL.of hl2, rfl⟩, ?_⟩
            unfold Last at hlast
            cases eg : ms.getLast? with
            | none =>
              rw [eg] at hlast
              have em : ms = [] := List.getLast?_eq_none_iff.mp eg
              subst em
              subst hlast
              rw [if_neg (show ¬ true = false from fun z => nomatch z)] at q
              exact iteF (iteF ⟨_, rfl, q H2 ⟨dx2, h2⟩ k12⟩)
            | some m =>
              rw [eg] at hlast
              obtain ⟨dm, nn, lm, qn, ⟨xm, hm⟩, hnn, ep⟩ := hlast
              have mm : m ∈ ms := List.mem_of_getLast? eg
              have hm2 := k12 _ _ hm (hne m mm)
              have hn2 := k12 _ _ hnn (ne_of hnn hr1 (by intro z; cases z))
              obtain ⟨ms', em⟩ : ∃ ms', ms = ms' ++ [m] := List.getLast?_eq_some_iff.mp eg
              subst em
              rw [show (!((ms' ++ [m]).map V.ref).isEmpty) = true by simp]
              subst ep
              refine iteT ?_
              refine ⟨_, rfl, r, CR, dx2, _, _, rfl, h2, T.cR, T.nRow, rf_row a _, _, rfl, _, rfl, _, rfl, r, CR, dx2, _, _, rfl, h2, T.cR, T.nPl, rf_place a _, _, rfl, a, _, rfl, sq2, fun x hx => ?_⟩
              rw [cut_bytes bs (p + l) k (by omega) rfl rfl]
              have nr : r ≠ x := ne_of_none h2 hx
              have nm : m ≠ x := ne_of_none hm2 hx
              refine ⟨_, rfl, h, CP, dh, _, _, rfl, (upd_ne (ne_of_none hh2 hx)).trans hh2, TP.cP, TP.nMe, rfl, _, rfl, ll, _, _, V.ref m, rfl, rfl, SqL.of ((upd_ne (ne_of_none hl2 hx)).trans hl2), by rw [List.map_append]; exact atI_last _ _, ?_⟩
              refine ⟨m, CP, xm, _, _, rfl, (upd_ne nm).trans hm2, TP.cP, TP.nNl, rfl, ?_⟩
              refine ⟨x, nn, bInts ((bs.drop (p + l)).take k), bInts qn, rfl, rfl, by rw [upd_same, bv_ints], by rw [upd_ne (ne_of_none hn2 hx), hn2, bv_ints], _, rfl, ?_⟩
              rw [le_before]
              by_cases cb : Sw.bytesBefore qn ((bs.drop (p + l)).take k) = false
              · rw [if_pos cb] at q
                rw [cb]
                exact iteT ⟨_, rfl, _, _, rfl, q⟩
              · rw [if_neg cb] at q
                have cb' : Sw.bytesBefore qn ((bs.drop (p + l)).take k) = true := by
                  cases hb : Sw.bytesBefore qn ((bs.drop (p + l)).take k) with
                  | true => rfl
                  | false => exact absurd hb cb
                rw [cb']
                refine iteF ⟨_, rfl, q _ ⟨dx2, by rw [upd_ne nr]; exact h2⟩ fun b o e n => ?_⟩
                have z := k12 b o e n
                rw [upd_ne (ne_of_none z hx)]
                exact z
end
end L2.J

set_option Elab.async false
set_option linter.all false
set_option maxRecDepth 100000
set_option maxHeartbeats 2000000
namespace L2.J
open PySem PySem.Spec PyProof.Rows L2.XC
structure TxB (mg : Str → Option Value) (CP : Addr) : Prop where
  mP : mg "Part" = some (.ref CP)
  mx : mg "max" = none
  k2 : GI mg "NUMBER" 2
  k3 : GI mg "BYTES" 3
  k4 : GI mg "TEXT" 4
  k5 : GI mg "LIST" 5
  k6 : GI mg "RECORD" 6
  k7 : GI mg "MOMENT" 7
  k8 : GI mg "IDENTITY" 8
  lk : GI mg "LAST_KIND" 8
  dp : GI mg "DEEPEST" 64
  ml : GI mg "MOMENT_LENGTH" 8
  il : GI mg "IDENTITY_LENGTH" 32
  e2 : GI mg "WRONG_KIND" 2
  e7 : GI mg "TOO_DEEP" 7
def spPI (CP : Addr) : Sp := fun vs H Q _ => ∃ (m dx : Addr) (k p : Nat), vs = [.ref m, .int (k : Int), .int (p : Int)] ∧ H m = some (.ins CP dx []) ∧
  ∀ (n l : Addr) (H' : Hp), H n = none → H l = none → n ≠ m → l ≠ m → n ≠ l → PtAt CP H' m ⟨k, p, p + 1, p, 0, 1, 0, 0⟩ n l → H' n = some (.lst []) → H' l = some (.lst []) → Kp H H' m → Q .non H'
def spLM (CP : Addr) : Sp := fun vs H Q _ => ∃ (m n l : Addr) (d : PD) (ms : List Addr), vs = [.ref m] ∧ PtAt CP H m d n l ∧ H l = some (.lst (ms.map V.ref)) ∧
  ∀ H' : Hp, Same H H' → Q (.bl (decide ((d.kind = 5 ∨ d.kind = 6) ∧ ms.length < d.size))) H'
def spDP (CP : Addr) : Sp := fun vs H Q _ => ∃ (h m nh lh nm lm : Addr) (dh dm : PD), vs = [.ref h, .ref m] ∧ PtAt CP H h dh nh lh ∧ PtAt CP H m dm nm lm ∧
  ∀ H' : Hp, PtAt CP H' h { dh with depth := max dh.depth (dm.depth + 1) } nh lh → Kp H H' h → Q .non H'
section
variable {P : Program} {w : World} {K : PySem.W.Frag} {mg : Str → Option Value} {base : Heap} {CF CR CP fFI : Addr} {fRV fPB fRB : Addr} {fdV fdP fdB : FuncData}
theorem scPI : FnScope ["self", "kind", "place"] ["self", "kind", "place"] (defScope sPI) := ⟨rfl, rfl, rfl, by decide +kernel, rfl, by decide +kernel, by decide +kernel⟩
theorem ok_PI {f : Addr} {fd : FuncData} (F : Fun K "__init__" "Part.__init__" sPI f fd) (TP : TxP K mg CP) : FnOk P w K mg base CX0 1 f fd ["self", "kind", "place"] (spPI CP) := by
  refine F.ok scPI (fun vs H Q E h => ?_) (fun cdv A outer s H vs Q E hr h => ?_)
  · obtain ⟨m, dx, k, p, rfl, _⟩ := h
    rfl
  · obtain ⟨m, dx, k, p, rfl, hm, q⟩ := h
    refine ⟨_, pss_cons (ps_fld (pv 0) (pv 1) rfl) (pss_cons (ps_fld (pv 0) (pv 2) rfl) (pss_cons (ps_fld (pv 0) (pe_op op_add (pv 2) pe_int) rfl) (pss_cons (ps_fld (pv 0) (pv 2) rfl) (pss_cons (ps_fld (pv 0) pe_int rfl) (pss_cons (ps_fld (pv 0) pe_int rfl)
      (pss_cons (ps_fld (pv 0) pe_int rfl) (pss_cons (ps_fld (pv 0) (pe_lst pa_nil) rfl) (pss_one (ps_fld (pv 0) (pe_lst pa_nil) rfl))))))))), ?_⟩
    refine ⟨_, rfl, _, rfl, m, CP, dx, [], rfl, hm, TP.cP, TP.nKi, (by show 0 < 1000; decide), ?_⟩
    refine ⟨_, rfl, _, rfl, m, CP, dx, _, rfl, upd_same, TP.cP, TP.nPl, (by show 1 < 1000; decide), ?_⟩
    refine ⟨_, rfl, _, _, rfl, rfl, _, rfl, m, CP, dx, _, rfl, upd_same, TP.cP, TP.nIn, (by show 2 < 1000; decide), ?_⟩
    refine ⟨_, rfl, _, rfl, m, CP, dx, _, rfl, upd_same, TP.cP, TP.nEn, (by show 3 < 1000; decide), ?_⟩
    refine ⟨_, rfl, m, CP, dx, _, rfl, upd_same, TP.cP, TP.nSi, (by show 4 < 1000; decide), ?_⟩
    refine ⟨_, rfl, m, CP, dx, _, rfl, upd_same, TP.cP, TP.nDe, (by show 5 < 1000; decide), ?_⟩
    refine ⟨_, rfl, m, CP, dx, _, rfl, upd_same, TP.cP, TP.nNp, (by show 6 < 1000; decide), ?_⟩
    refine ⟨Nat.zero_le _, fun n hn => ?_⟩
    have nnm : n ≠ m := fun z => by rw [z, upd_same] at hn; cases hn
    refine ⟨_, rfl, m, CP, dx, _, rfl, by rw [upd_ne (Ne.symm nnm)]; exact upd_same, TP.cP, TP.nNl, (by show 7 < 1000; decide), ?_⟩
    refine ⟨Nat.zero_le _, fun l hl => ?_⟩
    have nlm : l ≠ m := fun z => by rw [z, upd_same] at hl; cases hl
    have nnl : n ≠ l := fun z => by rw [← z, upd_ne nnm, upd_same] at hl; cases hl
    refine ⟨_, rfl, m, CP, dx, _, rfl, by rw [upd_ne (Ne.symm nlm)]; exact upd_same, TP.cP, TP.nMe, (by show 8 < 1000; decide), ?_⟩
    rw [upd_ne nnm, upd_ne nnm, upd_ne nnm, upd_ne nnm, upd_ne nnm, upd_ne nnm, upd_ne nnm] at hn
    rw [upd_ne nlm, upd_ne (Ne.symm nnl), upd_ne nlm, upd_ne nlm, upd_ne nlm, upd_ne nlm, upd_ne nlm, upd_ne nlm, upd_ne nlm] at hl
    refine q n l _ hn hl nnm nlm nnl ⟨dx, upd_same⟩ (by rw [upd_ne nnm, upd_ne nnl, upd_ne nnm, upd_same]) (by rw [upd_ne nlm, upd_same]) fun b o e n' => ?_
    have nbl : b ≠ l := fun z => by
      rw [z, hl] at e
      cases e
    have nbn : b ≠ n := fun z => by
      rw [z, hn] at e
      cases e
    rw [upd_ne n', upd_ne nbl, upd_ne n', upd_ne nbn, upd_ne n', upd_ne n', upd_ne n', upd_ne n', upd_ne n', upd_ne n', upd_ne n']
    exact e
theorem scLM : FnScope ["part"] ["part"] (defScope sLM) := ⟨rfl, rfl, rfl, by decide +kernel, rfl, by decide +kernel, by decide +kernel⟩
theorem in_two {k a b : Nat} : inV (.int (k : Int)) [.int (a : Int), .int (b : Int)] = decide (k = a ∨ k = b) := by
  show ((((a : Int) == (k : Int)) || ((((b : Int) == (k : Int))) || false))) = _
  by_cases h1 : k = a
  · subst h1
    rw [beq_self_eq_true, decide_eq_true (.inl rfl)]
    rfl
  · by_cases h2 : k = b
    · subst h2
      rw [beq_self_eq_true, decide_eq_true (.inr rfl), beq_eq_false_iff_ne.mpr (show (a : Int) ≠ (k : Int) by omega)]
      rfl
    · rw [beq_eq_false_iff_ne.mpr (show (a : Int) ≠ (k : Int) by omega), beq_eq_false_iff_ne.mpr (show (b : Int) ≠ (k : Int) by omega), decide_eq_false (by omega)]
      rfl
theorem ok_LM {f : Addr} {fd : FuncData} (F : Fun K "lacks_members" "lacks_members" sLM f fd) (TP : TxP K mg CP) (B : TxB mg CP) (hlen : mg "len" = none) : FnOk P w K mg base CX0 1 f fd ["part"] (spLM CP) := by
  refine F.ok scLM (fun vs H Q E h => ?_) (fun cdv A outer s H vs Q E hr h => ?_)
  · obtain ⟨m, n, l, d, ms, rfl, _⟩ := h
    rfl
  · obtain ⟨m, n, l, d, ms, rfl, ⟨dx, hm⟩, hl, q⟩ := h
    refine ⟨_, pss_one (ps_ret (pe_and (pe_cmpR op_in_seq (pe_fld (pv 0) rfl) (pe_tup (pa_cons (pgi B.k5 rfl) (pa_cons (pgi B.k6 rfl) pa_nil))) (by with_unfolding_all rfl))
      (pe_one (pe_cmpR op_lt (pe_callB call_len_seq (by rfl) hlen PySem.boot_len (pa_cons (pe_fld (pv 0) rfl) pa_nil)) (pe_fld (pv 0) rfl) (nomark _))))), ?_⟩
    refine ⟨_, rfl, m, CP, dx, _, _, rfl, hm, TP.cP, TP.nKi, rfl, (by show 2 ≤ sizeLine; decide), fun t ht => ?_⟩
    have hm2 : upd H t (.tup [.int 5, .int 6]) m = _ := (upd_ne (ne_of_none hm ht)).trans hm
    have hl2 : upd H t (.tup [.int 5, .int 6]) l = _ := (upd_ne (ne_of_none hl ht)).trans hl
    have sm : Same H (upd H t (.tup [.int 5, .int 6])) := fun b o e => (upd_ne (ne_of_none e ht)).trans e
    refine ⟨t, _, rfl, .inr (SqT.of upd_same), rfl, rfl, _, rfl, ?_⟩
    rw [show (if false = true then !inV (.int (d.kind : Int)) [.int 5, .int 6] else inV (.int (d.kind : Int)) [.int 5, .int 6]) = decide (d.kind = 5 ∨ d.kind = 6) from in_two (a := 5) (b := 6)]
    by_cases hk : d.kind = 5 ∨ d.kind = 6
    · rw [decide_eq_true hk]
      refine iteT ?_
      refine ⟨_, rfl, m, CP, dx, _, _, rfl, hm2, TP.cP, TP.nMe, rfl, l, _, rfl, .inl (SqL.of hl2), _, rfl, m, CP, dx, _, _, rfl, hm2, TP.cP, TP.nSi, rfl, _, _, rfl, rfl, ?_⟩
      have e : decide (((ms.map V.ref).length : Int) < (d.size : Int)) = decide ((d.kind = 5 ∨ d.kind = 6) ∧ ms.length < d.size) := by
        rw [List.length_map]
        by_cases h2 : ms.length < d.size
        · rw [decide_eq_true (show (ms.length : Int) < (d.size : Int) by omega), decide_eq_true ⟨hk, h2⟩]
        · rw [decide_eq_false (show ¬ (ms.length : Int) < (d.size : Int) by omega), decide_eq_false (fun z => h2 z.2)]
      show Q (V.bl (decide (((ms.map V.ref).length : Int) < (d.size : Int)))) _
      rw [e]
      exact q _ sm
    · rw [decide_eq_false hk]
      refine iteF ?_
      have q2 := q _ sm
      rw [decide_eq_false (fun z => hk z.1)] at q2
      exact q2
theorem scDP : FnScope ["holder", "part"] ["holder", "part"] (defScope sDP) := ⟨rfl, rfl, rfl, by decide +kernel, rfl, by decide +kernel, by decide +kernel⟩
theorem ok_DP {f : Addr} {fd : FuncData} (F : Fun K "deepen" "deepen" sDP f fd) (TP : TxP K mg CP) (B : TxB mg CP) : FnOk P w K mg base CX0 1 f fd ["holder", "part"] (spDP CP) := by
  refine F.ok scDP (fun vs H Q E h => ?_) (fun cdv A outer s H vs Q E hr h => ?_)
  · obtain ⟨h, m, nh, lh, nm, lm, dh, dm, rfl, _⟩ := h
    rfl
  · obtain ⟨h, m, nh, lh, nm, lm, dh, dm, rfl, ⟨xh, hh⟩, ⟨xm, hm⟩, q⟩ := h
    refine ⟨_, pss_one (ps_fld (pv 0) (pe_callB (call_max2 rfl) (by rfl) B.mx boot_max (pa_cons (pe_fld (pv 0) rfl) (pa_cons (pe_op op_add (pe_fld (pv 1) rfl) pe_int) pa_nil))) rfl), ?_⟩
    refine ⟨_, rfl, h, CP, xh, _, _, rfl, hh, TP.cP, TP.nDe, rfl, _, rfl, m, CP, xm, _, _, rfl, hm, TP.cP, TP.nDe, rfl, _, _, rfl, rfl, _, _, rfl, _, rfl, h, CP, xh, _, rfl, hh, TP.cP, TP.nDe, (by show 9 < 1000; decide), ?_⟩
    refine q _ ⟨xh, ?_⟩ fun b o e n => by rw [upd_ne n]; exact e
    rw [upd_same]
    have e : (if (dm.depth : Int) + 1 > (dh.depth : Int) then (dm.depth : Int) + 1 else (dh.depth : Int)) = ((max dh.depth (dm.depth + 1) : Nat) : Int) := by
      by_cases z : (dm.depth : Int) + 1 > (dh.depth : Int)
      · rw [if_pos z]; omega
      · rw [if_neg z]; omega
    show some (HO.ins CP xh (putF "depth" (V.int (if (dm.depth : Int) + 1 > (dh.depth : Int) then (dm.depth : Int) + 1 else (dh.depth : Int))) (pf dh nh lh))) = _
    rw [e]
    rfl
end
end L2.J

set_option Elab.async false
set_option linter.all false
set_option maxRecDepth 100000
set_option maxHeartbeats 2000000
namespace L2.J
open PySem PySem.Spec PyProof.Rows L2.XC
/-- c in (x1, x2) -/
theorem in_test {K : PySem.W.Frag} {j x1 x2 c : Nat} {σ : St} {H : Hp} {Q : Bool → Hp → Prop} (h : σ[j]? = some (some (.int (c : Int)))) (q : ∀ t, H t = none → Q (decide (c = x1 ∨ c = x2)) (upd H t (.tup [.int (x1 : Int), .int (x2 : Int)]))) :
    tTest (tOp (rIn K false) (tVar j) (tTup (tCons (tC (.int (x1 : Int))) (tCons (tC (.int (x2 : Int))) tNil)))) σ H Q := by
  refine ⟨_, h, (by show 2 ≤ sizeLine; decide), fun t ht => ⟨t, _, rfl, .inr (SqT.of upd_same), rfl, rfl, _, rfl, ?_⟩⟩
  have e : (if false = true then !inV (.int (c : Int)) [.int (x1 : Int), .int (x2 : Int)] else inV (.int (c : Int)) [.int (x1 : Int), .int (x2 : Int)]) = decide (c = x1 ∨ c = x2) := in_two
  rw [e]
  exact q t ht
/-- a new part stands at m, its name at n, its list at l -/
structure NewPt (CP : Addr) (H H' : Hp) (m n l : Addr) (d : PD) (nb : List V) : Prop where
  nm : H m = none
  nn : H n = none
  nl : H l = none
  ne : m ≠ l
  nmn : m ≠ n
  nnl : n ≠ l
  pt : PtAt CP H' m d n l
  ns : H' n = some (.lst nb)
  ls : H' l = some (.lst [])
def spBP (K : PySem.W.Frag) (CF CR CP : Addr) : Sp := fun vs H Q E => ∃ (r a : Addr) (lv p : Nat) (bs : List UInt8), vs = [.ref r, .int (lv : Int)] ∧ RdAt CR H r a p ∧ SqL K H a (bs.map bv) ∧ p ≤ bs.length ∧ bs.length ≤ 65536 ∧
  Out E CF (Pm.headAt lv p (bs.drop p)) fun (x : Nat × Nat × Nat × Nat) => ∀ (m n l : Addr) (H' : Hp), NewPt CP H H' m n l ⟨x.1, p, p + x.2.2.1, p, x.2.1, 1, 0, 0⟩ [] → RdAt CR H' r a (p + x.2.2.2) → Kp H H' r → Q (.ref m) H'
section
variable {P : Program} {w : World} {K : PySem.W.Frag} {mg : Str → Option Value} {base : Heap} {CF CR CP fFI : Addr} {fRV fPB fRB : Addr} {fdV fdP fdB : FuncData}
theorem scBP : FnScope ["reader", "level", "place", "kind", "part"] ["reader", "level"] (defScope sBP) := ⟨rfl, rfl, rfl, by decide +kernel, rfl, by decide +kernel, by decide +kernel⟩
theorem ok_BP {f fPI fPN fPR : Addr} {fd fdI fdP' fdN fdR : FuncData} (F : Fun K "begin_part" "begin_part" sBP f fd) (T : TxR K mg CF CR fFI) (TP : TxP K mg CP) (B : TxB mg CP) (GI : FnOk P w K mg base CX0 1 fFI fdI ["self", "kind", "place"] (spXI CF)) (bI : Binds K fdI ["self", "kind", "place"] [])
    (R : RdOk P w K mg base CF CR fRV fPB fRB fdV fdP fdB)
    (M : Mk K CP fPI) (GP : FnOk P w K mg base CX0 1 fPI fdP' ["self", "kind", "place"] (spPI CP)) (bP : Binds K fdP' ["self", "kind", "place"] [])
    (GN : FnOk P w K mg base (CXF P w) 6 fPN fdN ["reader", "part"] (spPN K CF CR CP)) (bN : Binds K fdN ["reader", "part"] []) (kN : PySem.W.keepIn K (.ref fPN) = true) (mN : mg "pass_number" = some (.ref fPN))
    (GR : FnOk P w K mg base (CXF P w) 6 fPR fdR ["reader", "part"] (spPR K CF CR CP)) (bR : Binds K fdR ["reader", "part"] []) (kR : PySem.W.keepIn K (.ref fPR) = true) (mR : mg "pass_row" = some (.ref fPR)) :
    FnOk P w K mg base (CXF P w) 7 f fd ["reader", "level"] (spBP K CF CR CP) := by
  refine okX F scBP (fun vs H Q E h => ?_) (fun cdv A outer s H vs Q E hr h => ?_)
  · obtain ⟨r, a, lv, p, bs, rfl, _⟩ := h
    rfl
  · obtain ⟨r, a, lv, p, bs, rfl, ⟨dx, hr1⟩, hs, hp, hz, q⟩ := h
    have hr2 : Room 2 _ := hr.mono (by decide)
    have hr3 : Room 3 _ := hr.mono (by decide)
    have hr4 : Room 4 _ := hr.mono (by decide)
    have hr5 : Room 5 _ := hr.mono (by decide)
    refine ⟨_, pss_cons (ps_set (i := 2) scBP.nd rfl (Or.inl rfl) (pe_fld (pv 0) rfl))
      (pss_cons (ps_set (i := 3) scBP.nd rfl (Or.inl rfl) (pe_meth0 (pv 0) T.cR R.mB R.gB hr4 R.bB .nil passX))
      (pss_cons (ps_if (pt_cmpR op_gt (pv 3) (pgi B.lk rfl) (nomark _)) (pss_one (ps_raise T.xc GI bI hr2 flies_cx rfl rfl T.mF (pa_cons (pgi B.e2 rfl) (pa_cons (pv 2) pa_nil)))) pss_nil)
      (pss_cons (ps_if (pt_cmpR op_gt (pv 1) (pgi B.dp rfl) (nomark _)) (pss_one (ps_raise T.xc GI bI hr2 flies_cx rfl rfl T.mF (pa_cons (pgi B.e7 rfl) (pa_cons (pv 2) pa_nil)))) pss_nil)
      (pss_cons (ps_set (i := 4) scBP.nd rfl (Or.inl rfl) (pe_make M GP hr2 rfl B.mP bP .nil pass0 (pa_cons (pv 3) (pa_cons (pv 2) pa_nil))))
      (pss_cons (ps_if (pt_cmpR op_eq (pv 3) (pgi B.k2 rfl) (nomark _)) (pss_one (ps_expr (pe_call GN hr rfl mN kN bN .nil passX (pa_cons (pv 0) (pa_cons (pv 4) pa_nil)))))
        (pss_one (ps_if (pt_cmpR op_in_seq (pv 3) (pe_tup (pa_cons (pgi B.k3 rfl) (pa_cons (pgi B.k4 rfl) pa_nil))) (by with_unfolding_all rfl))
          (pss_one (ps_expr (pe_call GR hr rfl mR kR bR .nil passX (pa_cons (pv 0) (pa_cons (pv 4) pa_nil)))))
          (pss_one (ps_if (pt_cmpR op_in_seq (pv 3) (pe_tup (pa_cons (pgi B.k5 rfl) (pa_cons (pgi B.k6 rfl) pa_nil))) (by with_unfolding_all rfl))
            (pss_cons (ps_fld (pv 4) (pe_meth0 (pv 0) T.cR R.mV R.gV hr5 R.bV .nil passX) rfl) (pss_one (ps_fld (pv 4) (pe_fld (pv 0) rfl) rfl)))
            (pss_one (ps_if (pt_cmpR op_eq (pv 3) (pgi B.k7 rfl) (nomark _)) (pss_one (ps_expr (pe_meth (pv 0) T.cR R.mP R.gP hr3 R.bP .nil passX (pa_cons (pgi B.ml rfl) pa_nil))))
              (pss_one (ps_if (pt_cmpR op_eq (pv 3) (pgi B.k8 rfl) (nomark _)) (pss_one (ps_expr (pe_meth (pv 0) T.cR R.mP R.gP hr3 R.bP .nil passX (pa_cons (pgi B.il rfl) pa_nil)))) pss_nil)))))))))
      (pss_one (ps_ret (pv 4)))))))), ?_⟩
    refine ⟨_, rfl, r, CR, dx, _, _, rfl, hr1, T.cR, T.nPl, rf_place a p, ?_⟩
    refine ⟨_, rfl, r, dx, _, rfl, hr1, rf_no a p (by decide +kernel) (by decide +kernel), r, a, p, bs, rfl, ⟨dx, hr1⟩, hs, ?_⟩
    unfold Pm.headAt at q
    cases eb : bs[p]? with
    | none =>
      have l0 : bs.length ≤ p := List.getElem?_eq_none_iff.mp eb
      have ed : bs.drop p = [] := List.drop_of_length_le l0
      rw [ed] at q
      have q' : Err E CF (.int 1) (.int (p : Int)) := q
      rw [show p = bs.length by omega] at q'
      exact q'
    | some c =>
      have l0 : p < bs.length := (List.getElem?_eq_some_iff.mp eb).1
      have ed : bs.drop p = c :: bs.drop (p + 1) := by
        rw [List.drop_eq_getElem_cons l0]
        rw [List.getElem?_eq_getElem l0] at eb
        cases eb
        rfl
      rw [ed] at q
      dsimp only at q
      rintro H1 ⟨dx1, h1⟩ k1
      have sq1 := sq_kp hs k1 hr1
      refine test_gt rfl ?_
      by_cases c8 : 8 < c.toNat
      · rw [if_pos c8] at q
        rw [decide_eq_true (show (8 : Int) < (c.toNat : Int) by omega)]
        exact iteT ⟨_, rfl, _, _, rfl, q⟩
      · rw [if_neg c8] at q
        rw [decide_eq_false (show ¬ (8 : Int) < (c.toNat : Int) by omega)]
        refine iteF (test_gt rfl ?_)
        by_cases cd : Sw.DEEP < lv
        · rw [if_pos cd] at q
          have cd' : 64 < lv := cd
          rw [decide_eq_true (show (64 : Int) < (lv : Int) by omega)]
          exact iteT ⟨_, rfl, _, _, rfl, q⟩
        · rw [if_neg cd] at q
          have cd' : ¬ 64 < lv := cd
          rw [decide_eq_false (show ¬ (64 : Int) < (lv : Int) by omega)]
          refine iteF ?_
          refine ⟨_, rfl, _, rfl, fun m dm hm hdm ndm => ?_⟩
          refine ⟨m, dm, c.toNat, p, rfl, upd_same, fun nn l H2 hn hl nnm nlm nnl pt ns ls k2 => ⟨rfl, ?_⟩⟩
          have hm1 : H1 m = none := hm
          have hl1 : H1 l = none := by
            rw [upd_ne nlm] at hl
            by_cases z : l = dm
            · rw [z, upd_same] at hl; cases hl
            · rw [upd_ne z] at hl; exact hl
          have hn1 : H1 nn = none := by
            rw [upd_ne nnm] at hn
            by_cases z : nn = dm
            · rw [z, upd_same] at hn; cases hn
            · rw [upd_ne z] at hn; exact hn
          have k3 : Kp H1 H2 m := fun b o e n => k2 b o (by rw [upd_ne n, upd_ne (ne_of_none e hdm)]; exact e) n
          have keep : ∀ b o, H1 b = some o → H2 b = some o := fun b o e => k3 b o e (ne_of_none e hm1)
          have h2 := keep _ _ h1
          have nmr : m ≠ r := fun z => by rw [z, h1] at hm1; cases hm1
          have nlr : l ≠ r := fun z => by rw [z, h1] at hl1; cases hl1
          have nnr : nn ≠ r := fun z => by rw [z, h1] at hn1; cases hn1
          have free0 : ∀ x, H1 x = none → H x = none := fun x hx => by
            cases z : H x with
            | none => rfl
            | some o =>
              by_cases y : x = r
              · rw [y, h1] at hx; cases hx
              · rw [k1 x o z y] at hx; cases hx
          have np : ∀ (d : PD) (H' : Hp), PtAt CP H' m d nn l → H' nn = some (.lst []) → H' l = some (.lst []) → NewPt CP H H' m nn l d [] := fun d H' z1 z0 z2 => ⟨free0 m hm1, free0 nn hn1, free0 l hl1, Ne.symm nlm, Ne.symm nnm, nnl, z1, z0, z2⟩
          have kk : ∀ H' : Hp, Kp H2 H' r → Kp H H' r := fun H' z b o e n => z b o (keep b o (k1 b o e n)) n
          have sq2 : SqL K H2 a (bs.map bv) := Same.seq keep sq1
          obtain ⟨xm, pt'⟩ := pt
          have kg : ∀ G H' : Hp, Same H2 G → Kp G H' r → Kp H2 H' r := fun G H' g z b o e n => z b o (g b o e) n
          have done : ∀ (n i u : Nat) (G H3 : Hp), Same H2 G → RdAt CR H3 r a (p + u) → PtAt CP H3 m ⟨c.toNat, p, p + i, p, n, 1, 0, 0⟩ nn l → Kp2 G H3 r m →
              Out E CF (.ok (c.toNat, n, i, u)) (fun (x : Nat × Nat × Nat × Nat) => ∀ (m n l : Addr) (H' : Hp), NewPt CP H H' m n l ⟨x.1, p, p + x.2.2.1, p, x.2.1, 1, 0, 0⟩ [] → RdAt CR H' r a (p + x.2.2.2) → Kp H H' r → Q (.ref m) H') → Q (.ref m) H3 := fun n i u G H3 g rd pt3 k4 q =>
            q m nn l H3 (np _ H3 pt3 (k4 _ _ (g _ _ ns) nnr nnm) (k4 _ _ (g _ _ ls) nlr nlm)) rd fun b o e n' => k4 b o (g b o (keep b o (k1 b o e n'))) n' (ne_of_none e (free0 m hm1))
          have pass_end : ∀ (n : Nat) (G : Hp), Same H2 G → Out E CF (match Sw.someOf (p + 1) n (bs.drop (p + 1)) with
                | .error e => .error e
                | .ok _ => .ok (c.toNat, 0, 1, 1 + n)) (fun (x : Nat × Nat × Nat × Nat) => ∀ (m n l : Addr) (H' : Hp), NewPt CP H H' m n l ⟨x.1, p, p + x.2.2.1, p, x.2.1, 1, 0, 0⟩ [] → RdAt CR H' r a (p + x.2.2.2) → Kp H H' r → Q (.ref m) H') →
              if bs.length - (p + 1) < n then Err E CF (.int 1) (.int (bs.length : Int)) else ∀ H' : Hp, RdAt CR H' r a (p + 1 + n) → Kp G H' r → tRet (tVar 4) { nx := fun _ H' => Q .non H', rt := Q } [some (.ref r), some (.int (lv : Int)), some (.int (p : Int)), some (bv c), some (.ref m)] H' := fun n G g q => by
            by_cases cn : bs.length - (p + 1) < n
            · rw [if_pos cn]
              rw [Hm.some_no (by rw [List.length_drop]; omega)] at q
              have q' : Err E CF (.int 1) (.int ((p + 1 + (bs.drop (p + 1)).length : Nat) : Int)) := q
              rw [List.length_drop, show p + 1 + (bs.length - (p + 1)) = bs.length by omega] at q'
              exact q'
            · rw [if_neg cn]
              rw [Hm.some_of (by rw [List.length_drop]; omega)] at q
              intro H3 rd3 k4
              exact ⟨_, rfl, done 0 1 (1 + n) G H3 g (by rw [← Nat.add_assoc]; exact rd3) ⟨xm, k4 _ _ (g _ _ pt') nmr⟩ (fun b o e n1 _ => k4 b o e n1) q⟩
          refine equals (n := 2) rfl ?_
          by_cases c2 : c.toNat = 2
          · rw [decide_eq_true c2]
            rw [if_pos c2] at q
            refine iteT ⟨_, rfl, _, rfl, r, a, m, nn, l, p + 1, _, bs, rfl, ⟨dx1, h2⟩, sq2, ⟨xm, pt'⟩, by omega, ?_⟩
            dsimp only
            cases en : Hm.numAt p (p + 1) (bs.drop (p + 1)) with
            | error e =>
              rw [en] at q
              exact q
            | ok x =>
              obtain ⟨u, h⟩ := x
              rw [en] at q
              intro H3 rd3 pt3 k4
              have e1 : p + 1 + u + h = p + (1 + u + h) := by omega
              have e2 : p + 1 + u = p + (1 + u) := by omega
              dsimp only at rd3 pt3
              rw [e1] at rd3
              rw [e2] at pt3
              exact ⟨_, rfl, done 0 (1 + u) (1 + u + h) H2 H3 (fun b o e => e) rd3 pt3 k4 q⟩
          · rw [decide_eq_false c2]
            rw [if_neg c2] at q
            refine iteF ?_
            refine in_test (x1 := 3) (x2 := 4) rfl fun t ht => ?_
            have g1 : Same H2 (upd H2 t (.tup [.int 3, .int 4])) := fun b o e => (upd_ne (ne_of_none e ht)).trans e
            by_cases c34 : c.toNat = 3 ∨ c.toNat = 4
            · rw [decide_eq_true c34]
              rw [if_pos c34] at q
              refine iteT ⟨_, rfl, _, rfl, r, a, m, nn, l, p + 1, _, bs, rfl, ⟨dx1, g1 _ _ h2⟩, g1.seq sq2, ⟨xm, g1 _ _ pt'⟩, by omega, hz, ?_⟩
              dsimp only
              cases en : Hm.strAt (decide (c.toNat = 4)) (p + 1) (bs.drop (p + 1)) with
              | error e =>
                rw [en] at q
                exact q
              | ok x =>
                obtain ⟨n, u⟩ := x
                rw [en] at q
                intro H3 rd3 pt3 k4
                have e1 : p + 1 + u + n = p + (1 + u + n) := by omega
                have e2 : p + 1 + u = p + (1 + u) := by omega
                dsimp only at rd3 pt3
                rw [e1] at rd3
                rw [e2] at pt3
                exact ⟨_, rfl, done n (1 + u) (1 + u + n) _ H3 g1 rd3 pt3 k4 q⟩
            · rw [decide_eq_false c34]
              rw [if_neg c34] at q
              refine iteF ?_
              refine in_test (x1 := 5) (x2 := 6) rfl fun t2 ht2 => ?_
              have g2 : Same H2 (upd (upd H2 t (.tup [.int 3, .int 4])) t2 (.tup [.int 5, .int 6])) := fun b o e => (upd_ne (ne_of_none (g1 b o e) ht2)).trans (g1 b o e)
              by_cases c56 : c.toNat = 5 ∨ c.toNat = 6
              · rw [decide_eq_true c56]
                rw [if_pos c56] at q
                refine iteT ⟨_, rfl, r, dx1, _, rfl, g2 _ _ h2, rf_no a (p + 1) (by decide +kernel) (by decide +kernel), r, a, p + 1, bs, rfl, ⟨dx1, g2 _ _ h2⟩, g2.seq sq2, by omega, ?_⟩
                cases en : Sw.varyOf (p + 1) (bs.drop (p + 1)) with
                | error e =>
                  rw [en] at q
                  exact q
                | ok x =>
                  obtain ⟨n, u⟩ := x
                  rw [en] at q
                  rintro H3 ⟨dx3, rd3⟩ k4
                  have pt3 := k4 _ _ (g2 _ _ pt') nmr
                  have e2 : p + 1 + u = p + (1 + u) := by omega
                  dsimp only at rd3
                  refine ⟨_, rfl, m, CP, xm, _, rfl, pt3, TP.cP, TP.nSi, (by show 9 < 1000; decide), ?_⟩
                  refine ⟨_, rfl, r, CR, dx3, _, _, rfl, by rw [upd_ne (Ne.symm nmr)]; exact rd3, T.cR, T.nPl, rf_place a _, _, rfl, m, CP, xm, _, rfl, upd_same, TP.cP, TP.nIn, (by show 9 < 1000; decide), ?_⟩
                  refine ⟨_, rfl, done n (1 + u) (1 + u) _ _ g2 ⟨dx3, ?_⟩ ⟨xm, ?_⟩ (fun b o e n1 n2 => ?_) q⟩
                  · rw [upd_ne (Ne.symm nmr), upd_ne (Ne.symm nmr), rd3, e2]
                  · rw [upd_same, e2]
                    rfl
                  · rw [upd_ne n2, upd_ne n2]
                    exact k4 b o e n1
              · rw [decide_eq_false c56]
                rw [if_neg c56] at q
                refine iteF (equals (n := 7) rfl ?_)
                by_cases c7 : c.toNat = 7
                · rw [decide_eq_true c7]
                  rw [if_pos c7] at q
                  refine iteT ⟨_, rfl, r, dx1, _, rfl, g2 _ _ h2, rf_no a (p + 1) (by decide +kernel) (by decide +kernel), r, a, p + 1, 8, bs, rfl, ⟨dx1, g2 _ _ h2⟩, g2.seq sq2, by omega, ?_⟩
                  exact pass_end 8 _ g2 q
                · rw [decide_eq_false c7]
                  rw [if_neg c7] at q
                  refine iteF (equals (n := 8) rfl ?_)
                  by_cases c8' : c.toNat = 8
                  · rw [decide_eq_true c8']
                    rw [if_pos c8'] at q
                    refine iteT ⟨_, rfl, r, dx1, _, rfl, g2 _ _ h2, rf_no a (p + 1) (by decide +kernel) (by decide +kernel), r, a, p + 1, 32, bs, rfl, ⟨dx1, g2 _ _ h2⟩, g2.seq sq2, by omega, ?_⟩
                    exact pass_end 32 _ g2 q
                  · rw [decide_eq_false c8']
                    rw [if_neg c8'] at q
                    exact iteF ⟨_, rfl, done 0 1 1 _ _ g2 ⟨dx1, g2 _ _ h2⟩ ⟨xm, g2 _ _ pt'⟩ (fun b o e _ _ => e) q⟩
end
end L2.J

set_option Elab.async false
set_option linter.all false
set_option maxRecDepth 100000
set_option maxHeartbeats 2000000
namespace L2.J
open PySem PySem.Spec PyProof.Rows L2.XC
def spBM (K : PySem.W.Frag) (CF CR CP : Addr) : Sp := fun vs H Q E => ∃ (r a h nh lh : Addr) (lv p : Nat) (bs : List UInt8) (dh : PD) (ms : List Addr) (prev : Option (List UInt8)), vs = [.ref r, .ref h, .int (lv : Int)] ∧ RdAt CR H r a p ∧ SqL K H a (bs.map bv) ∧ p ≤ bs.length ∧ bs.length ≤ 65536 ∧
  PtAt CP H h dh nh lh ∧ H lh = some (.lst (ms.map V.ref)) ∧ ms.length ≤ 65536 ∧ (dh.kind = 6 → Last CP H ms prev) ∧ (∀ m ∈ ms, m ≠ r) ∧
  Out E CF (Pm.memAt (decide (dh.kind = 6)) prev lv p (bs.drop p)) fun (x : Nat × Nat × Nat × Nat × Nat × Nat) => ∀ (m nm lm : Addr) (H' : Hp), NewPt CP H H' m nm lm (Pm.newD (decide (dh.kind = 6)) p x) (((bs.drop (Pm.newD (decide (dh.kind = 6)) p x).np).take (Pm.newD (decide (dh.kind = 6)) p x).nl).map bv) →
    RdAt CR H' r a (p + x.2.1 + x.1 + x.2.2.2.2.2) → H' lh = some (.lst ((ms ++ [m]).map V.ref)) → (∀ b o, H b = some o → b ≠ r → b ≠ lh → H' b = some o) → Q (.ref m) H'
theorem Last.same {CP : Addr} {H H' : Hp} {ms : List Addr} {prev : Option (List UInt8)} (k : Same H H') (h : Last CP H ms prev) : Last CP H' ms prev := by
  unfold Last at *
  cases e : ms.getLast? with
  | none => rw [e] at h; exact h
  | some m =>
    rw [e] at h
    obtain ⟨d, n, l, q, ⟨dx, h1⟩, h2, h3⟩ := h
    exact ⟨d, n, l, q, ⟨dx, k _ _ h1⟩, k _ _ h2, h3⟩
/-- a part that has been begun gets its name, and its place among its holder's members -/
theorem bm_end {CP CR : Addr} {H G H2 : Hp} {r a lh m nB lm nn xm : Addr} {xs ys nb : List V} {fs : List (Str × V)} {d0 d : PD} {o1 : HO} {pp : Nat} (hl : H lh = some (.lst xs)) (sG : ∀ b o, H b = some o → b ≠ r → G b = some o) (hr : H r = some o1)
    (nnG : G nn = some (.lst nb)) (nnH : H nn = none) (fr : ∀ x, G x = none → H x = none) (np : NewPt CP G H2 m nB lm d0 []) (rd : RdAt CR H2 r a pp) (nlr : lh ≠ r) (k2 : Kp G H2 r) :
    let Hf := upd (upd (upd H2 m (.ins CP xm fs)) m (.ins CP xm (pf d nn lm))) lh (.lst ys)
    NewPt CP H Hf m nn lm d nb ∧ RdAt CR Hf r a pp ∧ Hf lh = some (.lst ys) ∧ ∀ b o, H b = some o → b ≠ r → b ≠ lh → Hf b = some o := by
  intro Hf
  have nm0 := fr m np.nm
  have nl0 := fr lm np.nl
  have nmlh : lh ≠ m := ne_of_none hl nm0
  have nlmlh : lh ≠ lm := ne_of_none hl nl0
  have nnlh : lh ≠ nn := ne_of_none hl nnH
  have nmr : r ≠ m := ne_of_none hr nm0
  have nnr : r ≠ nn := ne_of_none hr nnH
  have nnm : nn ≠ m := ne_of_none nnG np.nm
  have nnlm : nn ≠ lm := ne_of_none nnG np.nl
  refine ⟨⟨nm0, nnH, nl0, np.ne, Ne.symm nnm, nnlm, ⟨xm, ?_⟩, ?_, ?_⟩, ?_, ?_, fun b o e n1 n2 => ?_⟩
  · show upd (upd (upd H2 m _) m _) lh _ m = _
    rw [upd_ne (Ne.symm nmlh), upd_same]
  · show upd (upd (upd H2 m _) m _) lh _ nn = _
    rw [upd_ne (Ne.symm nnlh), upd_ne nnm, upd_ne nnm]
    exact k2 _ _ nnG (Ne.symm nnr)
  · show upd (upd (upd H2 m _) m _) lh _ lm = _
    rw [upd_ne (Ne.symm nlmlh), upd_ne (Ne.symm np.ne), upd_ne (Ne.symm np.ne)]
    exact np.ls
  · obtain ⟨dz, rz⟩ := rd
    refine ⟨dz, ?_⟩
    show upd (upd (upd H2 m _) m _) lh _ r = _
    rw [upd_ne (Ne.symm nlr), upd_ne nmr, upd_ne nmr]
    exact rz
  · show upd (upd (upd H2 m _) m _) lh _ lh = _
    rw [upd_same]
  · show upd (upd (upd H2 m _) m _) lh _ b = _
    rw [upd_ne n2, upd_ne (ne_of_none e nm0), upd_ne (ne_of_none e nm0)]
    exact k2 b o (sG b o e n1) n1
section
variable {P : Program} {w : World} {K : PySem.W.Frag} {mg : Str → Option Value} {base : Heap} {CF CR CP fFI : Addr}
theorem scBM : FnScope ["reader", "holder", "level", "name_place", "name", "part"] ["reader", "holder", "level"] (defScope sBM) := ⟨rfl, rfl, rfl, by decide +kernel, rfl, by decide +kernel, by decide +kernel⟩
theorem ok_BM {f fRN fBP : Addr} {fd fdN fdB : FuncData} (F : Fun K "begin_member" "begin_member" sBM f fd) (T : TxR K mg CF CR fFI) (TP : TxP K mg CP) (B : TxB mg CP)
    (GN : FnOk P w K mg base (CXF P w) 6 fRN fdN ["reader", "holder"] (spRN K CF CR CP)) (bN : Binds K fdN ["reader", "holder"] []) (kN : PySem.W.keepIn K (.ref fRN) = true) (mN : mg "read_name" = some (.ref fRN))
    (GB : FnOk P w K mg base (CXF P w) 7 fBP fdB ["reader", "level"] (spBP K CF CR CP)) (bB : Binds K fdB ["reader", "level"] []) (kB : PySem.W.keepIn K (.ref fBP) = true) (mB : mg "begin_part" = some (.ref fBP)) :
    FnOk P w K mg base (CXF P w) 8 f fd ["reader", "holder", "level"] (spBM K CF CR CP) := by
  refine okX F scBM (fun vs H Q E h => ?_) (fun cdv A outer s H vs Q E hr h => ?_)
  · obtain ⟨r, a, h, nh, lh, lv, p, bs, dh, ms, prev, rfl, _⟩ := h
    rfl
  · obtain ⟨r, a, h, nh, lh, lv, p, bs, dh, ms, prev, rfl, ⟨dx, hr1⟩, hs, hp, hz, ⟨xh, hh⟩, hl, hml, hlast, hne, q⟩ := h
    have hr6 : Room 6 _ := hr.mono (by decide)
    refine ⟨_, pss_cons (ps_set (i := 3) scBM.nd rfl (Or.inl rfl) pe_int)
      (pss_cons (ps_set (i := 4) scBM.nd rfl (Or.inl rfl) (pe_lst pa_nil))
      (pss_cons (ps_if (pt_cmpR op_eq (pe_fld (pv 1) rfl) (pgi B.k6 rfl) (nomark _))
        (pss_cons (ps_set (i := 3) scBM.nd rfl (Or.inl rfl) (pe_call GN hr6 rfl mN kN bN .nil passX (pa_cons (pv 0) (pa_cons (pv 1) pa_nil))))
          (pss_one (ps_set (i := 4) scBM.nd rfl (Or.inl rfl) (pe_slice sl_list (pe_fld (pv 0) rfl) (po_some (pv 3)) (po_some (pe_fld (pv 0) rfl)))))) pss_nil)
      (pss_cons (ps_set (i := 5) scBM.nd rfl (Or.inl rfl) (pe_call GB hr rfl mB kB bB .nil passX (pa_cons (pv 0) (pa_cons (pv 2) pa_nil))))
      (pss_cons (ps_fld (pv 5) (pv 3) rfl)
      (pss_cons (ps_fld (pv 5) (pv 4) rfl)
      (pss_cons (ps_expr (pe_bm PySem.F.plainAttrs_list PySem.F.slot_list_append PySem.F.type_list_append mt_append (pe_fld (pv 1) rfl) (pa_cons (pv 5) pa_nil)))
      (pss_one (ps_ret (pv 5))))))))), ?_⟩
    have nhr : h ≠ r := ne_of hh hr1 (by intro z; injection z with _ _ z3; exact absurd (congrArg List.length z3) (by show ¬ 9 = 2; decide))
    have nlr : lh ≠ r := ne_of hl hr1 (by intro z; cases z)
    have nhl : h ≠ lh := ne_of hh hl (by intro z; cases z)
    unfold Pm.memAt at q
    refine ⟨Nat.zero_le _, fun n0 hn0 => ?_⟩
    have s0 : Same H (upd H n0 (.lst [])) := fun b o e => (upd_ne (ne_of_none e hn0)).trans e
    refine ⟨_, rfl, h, CP, xh, _, _, rfl, s0 _ _ hh, TP.cP, TP.nKi, rfl, rfl, _, rfl, ?_⟩
    rw [dint]
    by_cases c6 : dh.kind = 6
    · rw [decide_eq_true (show (dh.kind : Int) = 6 by omega)]
      rw [decide_eq_true c6] at q
      unfold Pm.nmAt at q
      rw [if_pos rfl] at q
      refine iteT ⟨_, rfl, _, rfl, r, a, h, nh, lh, p, bs, dh, ms, prev, rfl, ⟨dx, s0 _ _ hr1⟩, s0.seq hs, hp, hz, ⟨xh, s0 _ _ hh⟩, s0 _ _ hl, (hlast c6).same s0, hne, ?_⟩
      cases en : Hm.nameAt prev p (bs.drop p) with
      | error e =>
        rw [en] at q
        exact q
      | ok x =>
        obtain ⟨k, l⟩ := x
        rw [en] at q
        have nu := Pm.name_used en
        rw [List.length_drop] at nu
        rintro H1 ⟨dx1, h1⟩ k1
        have sq1 := sq_kp (s0.seq hs) k1 (s0 _ _ hr1)
        refine ⟨_, rfl, r, CR, dx1, _, _, rfl, h1, T.cR, T.nRow, rf_row a _, _, rfl, _, rfl, _, rfl, r, CR, dx1, _, _, rfl, h1, T.cR, T.nPl, rf_place a _, _, rfl, a, _, rfl, sq1, fun n1 hn1 => ?_⟩
        rw [cut_bytes bs (p + l) k (by omega) rfl rfl]
        have s1 : Same H1 (upd H1 n1 (.lst (((bs.drop (p + l)).take k).map bv))) := fun b o e => (upd_ne (ne_of_none e hn1)).trans e
        generalize hG : upd H1 n1 (.lst (((bs.drop (p + l)).take k).map bv)) = G at s1
        have nnG : G n1 = some (.lst (((bs.drop (p + l)).take k).map bv)) := by rw [← hG, upd_same]
        have fr1 : ∀ x, H1 x = none → H x = none := fun x hx => by
          cases z : H x with
          | none => rfl
          | some o =>
            by_cases y : x = r
            · rw [y, h1] at hx; cases hx
            · rw [k1 x o (s0 _ _ z) y] at hx; cases hx
        have fr : ∀ x, G x = none → H x = none := fun x hx => fr1 x (s1.free hx)
        have sG : ∀ b o, H b = some o → b ≠ r → G b = some o := fun b o e n => s1 _ _ (k1 b o (s0 _ _ e) n)
        dsimp only at q
        rw [List.drop_drop, ← Nat.add_assoc] at q
        refine ⟨_, rfl, _, rfl, r, a, lv, p + l + k, bs, rfl, ⟨dx1, s1 _ _ h1⟩, s1.seq sq1, by omega, hz, ?_⟩
        cases eh : Pm.headAt lv (p + l + k) (bs.drop (p + l + k)) with
        | error e =>
          rw [eh] at q
          exact q
        | ok y =>
          obtain ⟨kd, n, i, u⟩ := y
          rw [eh] at q
          intro m nB lm H2 np rd2 k2
          obtain ⟨xm, pt⟩ := np.pt
          have nmh : h ≠ m := ne_of_none hh (fr m np.nm)
          have nmlh : lh ≠ m := ne_of_none hl (fr m np.nm)
          have hh2 := k2 _ _ (sG _ _ hh nhr) nhr
          have hl2 := k2 _ _ (sG _ _ hl nlr) nlr
          refine ⟨_, rfl, _, rfl, m, CP, xm, _, rfl, pt, TP.cP, TP.nNp, (by show 9 < 1000; decide), ?_⟩
          refine ⟨_, rfl, _, rfl, m, CP, xm, _, rfl, upd_same, TP.cP, TP.nNl, (by show 9 < 1000; decide), ?_⟩
          have hl3 : upd (upd H2 m (.ins CP xm (putF "name_place" (.int ((p + l : Nat) : Int)) (pf ⟨kd, p + l + k, p + l + k + i, p + l + k, n, 1, 0, 0⟩ nB lm)))) m (.ins CP xm (putF "name" (.ref n1) (putF "name_place" (.int ((p + l : Nat) : Int)) (pf ⟨kd, p + l + k, p + l + k + i, p + l + k, n, 1, 0, 0⟩ nB lm)))) lh = some (.lst (ms.map V.ref)) := by
            rw [upd_ne nmlh, upd_ne nmlh]; exact hl2
          refine ⟨_, rfl, h, CP, xh, _, .ref lh, rfl, by rw [upd_ne nmh, upd_ne nmh]; exact hh2, TP.cP, TP.nMe, rfl, .inl ⟨rfl, _, SqL.of hl3⟩, _, rfl, lh, _, _, rfl, rfl, hl3, (by rw [List.length_map]; exact Nat.lt_of_le_of_lt hml (by decide)), ?_⟩
          obtain ⟨z1, z2, z3, z4⟩ := bm_end (d := Pm.newD true p (k, l, kd, n, i, u)) (xm := xm) (fs := putF "name_place" (.int ((p + l : Nat) : Int)) (pf ⟨kd, p + l + k, p + l + k + i, p + l + k, n, 1, 0, 0⟩ nB lm)) (ys := ms.map V.ref ++ [V.ref m]) hl sG hr1 nnG (fr1 n1 hn1) fr np rd2 nlr k2
          refine ⟨_, rfl, q m n1 lm _ z1 z2 (z3.trans ?_) z4⟩
          rw [List.map_append]
          rfl
    · rw [decide_eq_false (show ¬ (dh.kind : Int) = 6 by omega)]
      rw [decide_eq_false c6] at q
      unfold Pm.nmAt at q
      rw [if_neg Bool.false_ne_true] at q
      dsimp only at q
      refine iteF ?_
      have nnG : upd H n0 (.lst []) n0 = some (.lst []) := upd_same
      generalize upd H n0 (.lst []) = G at s0 nnG
      have fr : ∀ x, G x = none → H x = none := fun x hx => s0.free hx
      have sG : ∀ b o, H b = some o → b ≠ r → G b = some o := fun b o e _ => s0 b o e
      rw [List.drop_zero, show p + 0 + 0 = p from rfl] at q
      refine ⟨_, rfl, _, rfl, r, a, lv, p, bs, rfl, ⟨dx, s0 _ _ hr1⟩, s0.seq hs, by omega, hz, ?_⟩
      cases eh : Pm.headAt lv (p) (bs.drop (p)) with
      | error e =>
        rw [eh] at q
        exact q
      | ok y =>
        obtain ⟨kd, n, i, u⟩ := y
        rw [eh] at q
        intro m nB lm H2 np rd2 k2
        obtain ⟨xm, pt⟩ := np.pt
        have nmh : h ≠ m := ne_of_none hh (fr m np.nm)
        have nmlh : lh ≠ m := ne_of_none hl (fr m np.nm)
        have hh2 := k2 _ _ (sG _ _ hh nhr) nhr
        have hl2 := k2 _ _ (sG _ _ hl nlr) nlr
        refine ⟨_, rfl, _, rfl, m, CP, xm, _, rfl, pt, TP.cP, TP.nNp, (by show 9 < 1000; decide), ?_⟩
        refine ⟨_, rfl, _, rfl, m, CP, xm, _, rfl, upd_same, TP.cP, TP.nNl, (by show 9 < 1000; decide), ?_⟩
        have hl3 : upd (upd H2 m (.ins CP xm (putF "name_place" (.int 0) (pf ⟨kd, p, p + i, p, n, 1, 0, 0⟩ nB lm)))) m (.ins CP xm (putF "name" (.ref n0) (putF "name_place" (.int 0) (pf ⟨kd, p, p + i, p, n, 1, 0, 0⟩ nB lm)))) lh = some (.lst (ms.map V.ref)) := by
          rw [upd_ne nmlh, upd_ne nmlh]; exact hl2
        refine ⟨_, rfl, h, CP, xh, _, .ref lh, rfl, by rw [upd_ne nmh, upd_ne nmh]; exact hh2, TP.cP, TP.nMe, rfl, .inl ⟨rfl, _, SqL.of hl3⟩, _, rfl, lh, _, _, rfl, rfl, hl3, (by rw [List.length_map]; exact Nat.lt_of_le_of_lt hml (by decide)), ?_⟩
        obtain ⟨z1, z2, z3, z4⟩ := bm_end (d := Pm.newD false p (0, 0, kd, n, i, u)) (xm := xm) (fs := putF "name_place" (.int 0) (pf ⟨kd, p, p + i, p, n, 1, 0, 0⟩ nB lm)) (ys := ms.map V.ref ++ [V.ref m]) hl sG hr1 nnG hn0 fr np rd2 nlr k2
        refine ⟨_, rfl, q m n0 lm _ z1 z2 (z3.trans ?_) z4⟩
        rw [List.map_append]
        rfl
end
end L2.J

set_option Elab.async false
set_option linter.all false
set_option maxRecDepth 100000
set_option maxHeartbeats 2000000
namespace L2.J
open PySem PySem.Spec PyProof.Rows L2.XC
/-- a part's name, out of its row -/
def nmOf (bs : List UInt8) (d : PD) : List V := ((bs.drop d.np).take d.nl).map bv
mutual
/-- a part with all within it stands at a -/
inductive TrOk (CP : Addr) (bs : List UInt8) (H : Hp) : Addr → PT → Prop
  | mk {a n l : Addr} {as : List Addr} {d : PD} {ms : List PT} : PtAt CP H a d n l → H n = some (.lst (nmOf bs d)) → H l = some (.lst (as.map V.ref)) → TrsOk CP bs H as ms → TrOk CP bs H a (.node d ms)
inductive TrsOk (CP : Addr) (bs : List UInt8) (H : Hp) : List Addr → List PT → Prop
  | nil : TrsOk CP bs H [] []
  | cons {a : Addr} {as : List Addr} {t : PT} {ts : List PT} : TrOk CP bs H a t → TrsOk CP bs H as ts → TrsOk CP bs H (a :: as) (t :: ts)
end
mutual
theorem TrOk.same {CP : Addr} {bs : List UInt8} {H H' : Hp} (k : Same H H') : ∀ {a : Addr} {t : PT}, TrOk CP bs H a t → TrOk CP bs H' a t
  | _, _, .mk ⟨dx, h1⟩ h0 h2 h3 => .mk ⟨dx, k _ _ h1⟩ (k _ _ h0) (k _ _ h2) (h3.same k)
theorem TrsOk.same {CP : Addr} {bs : List UInt8} {H H' : Hp} (k : Same H H') : ∀ {as : List Addr} {ts : List PT}, TrsOk CP bs H as ts → TrsOk CP bs H' as ts
  | _, _, .nil => .nil
  | _, _, .cons h1 h2 => .cons (h1.same k) (h2.same k)
end
theorem TrsOk.len {CP : Addr} {bs : List UInt8} {H : Hp} : ∀ {as : List Addr} {ts : List PT}, TrsOk CP bs H as ts → as.length = ts.length
  | _, _, .nil => rfl
  | _, _, .cons _ h => by rw [List.length_cons, List.length_cons, h.len]
theorem TrsOk.get {CP : Addr} {bs : List UInt8} {H : Hp} : ∀ {as : List Addr} {ts : List PT}, TrsOk CP bs H as ts → ∀ {j : Nat} {a : Addr}, as[j]? = some a → ∃ t, ts[j]? = some t ∧ TrOk CP bs H a t
  | _, _, .nil, j, a, e => by simp at e
  | _, _, .cons (a := a0) (t := t0) h1 h2, 0, a, e => by
    have e : some a0 = some a := e
    injection e with e
    subst e
    exact ⟨t0, rfl, h1⟩
  | _, _, .cons h1 h2, j + 1, a, e => h2.get e
theorem TrsOk.snoc {CP : Addr} {bs : List UInt8} {H : Hp} {a : Addr} {t : PT} (h : TrOk CP bs H a t) : ∀ {as : List Addr} {ts : List PT}, TrsOk CP bs H as ts → TrsOk CP bs H (as ++ [a]) (ts ++ [t])
  | _, _, .nil => .cons h .nil
  | _, _, .cons h1 h2 => .cons h1 (h2.snoc h)
theorem TrOk.pt {CP : Addr} {bs : List UInt8} {H : Hp} {a : Addr} {t : PT} (h : TrOk CP bs H a t) : ∃ n l, PtAt CP H a t.d n l ∧ H n = some (.lst (nmOf bs t.d)) := by
  cases h with
  | mk h1 h0 _ _ => exact ⟨_, _, h1, h0⟩
/-- a part that is begun: where it and its list stand, its ended members, its numbers, theirs -/
structure SF where
  a : Addr
  n : Addr
  l : Addr
  as : List Addr
  d : PD
  mem : List PT
structure FrOk (CP : Addr) (p : Nat) (bs : List UInt8) (G D : Hp) (s : SF) (ch : List Addr) : Prop where
  pt : PtAt CP G s.a s.d s.n s.l
  nm : D s.n = some (.lst (nmOf bs s.d))
  ls : G s.l = some (.lst ((s.as ++ ch).map V.ref))
  mem : TrsOk CP bs D s.as s.mem
  bd : s.as.length + ch.length + 1 ≤ p
  dp : 1 ≤ s.d.depth
def StOk (CP : Addr) (p : Nat) (bs : List UInt8) (G D : Hp) : List Addr → List SF → Prop
  | _, [] => True
  | ch, s :: r => FrOk CP p bs G D s ch ∧ StOk CP p bs G D [s.a] r
theorem FrOk.keep {CP : Addr} {p p' : Nat} {bs : List UInt8} {G G' D D' : Hp} {s : SF} {ch : List Addr} (f : FrOk CP p bs G D s ch) (hp : p ≤ p') (hd : Same D D') (ha : ∀ o, G s.a = some o → G' s.a = some o) (hl : ∀ o, G s.l = some o → G' s.l = some o) : FrOk CP p' bs G' D' s ch := by
  refine ⟨?_, hd _ _ f.nm, hl _ f.ls, f.mem.same hd, Nat.le_trans f.bd hp, f.dp⟩
  obtain ⟨dx, h⟩ := f.pt
  exact ⟨dx, ha _ h⟩
theorem StOk.keep {CP : Addr} {p p' : Nat} {bs : List UInt8} {G G' D D' : Hp} (hp : p ≤ p') (hd : Same D D') : ∀ {st : List SF} {ch : List Addr}, StOk CP p bs G D ch st →
    (∀ s ∈ st, (∀ o, G s.a = some o → G' s.a = some o) ∧ (∀ o, G s.l = some o → G' s.l = some o)) → StOk CP p' bs G' D' ch st
  | [], _, _, _ => trivial
  | s :: r, ch, h, k => by
    obtain ⟨h1, h2⟩ := h
    obtain ⟨k1, k2⟩ := k s (by simp)
    exact ⟨h1.keep hp hd k1 k2, StOk.keep hp hd h2 fun s' hs => k s' (by simp [hs])⟩
theorem StOk.fr {CP : Addr} {p : Nat} {bs : List UInt8} {G D : Hp} : ∀ {st : List SF} {ch : List Addr}, StOk CP p bs G D ch st → ∀ s ∈ st, ∃ ch', FrOk CP p bs G D s ch'
  | [], _, _, s, hs => by simp at hs
  | s0 :: r, ch, h, s, hs => by
    rcases List.mem_cons.mp hs with rfl | hs
    · exact ⟨ch, h.1⟩
    · exact h.2.fr s hs
structure Dist (H D : Hp) (g : Addr) (st : List SF) : Prop where
  na : (st.map (·.a)).Nodup
  nl : (st.map (·.l)).Nodup
  ng : ∀ s ∈ st, s.l ≠ g
  da : ∀ s ∈ st, D s.a = none ∧ D s.l = none
  f0 : ∀ s ∈ st, H s.a = none ∧ H s.l = none
/-- parts and lists differ -/
theorem pt_ne_lst {CP : Addr} {G : Hp} {a n l b : Addr} {d : PD} {xs : List V} (h : PtAt CP G a d n l) (h' : G b = some (.lst xs)) : a ≠ b := by
  obtain ⟨dx, h⟩ := h
  exact ne_of h h' (by intro z; cases z)
theorem pt_ne_rd {CP CR : Addr} {G : Hp} {a n l r b : Addr} {d : PD} {p : Nat} (h : PtAt CP G a d n l) (h' : RdAt CR G r b p) : a ≠ r := by
  obtain ⟨dx, h⟩ := h
  obtain ⟨dy, h'⟩ := h'
  exact ne_of h h' (by intro z; injection z with _ _ z3; exact absurd (congrArg List.length z3) (by show ¬ 9 = 2; decide))
theorem lst_ne_rd {CR : Addr} {G : Hp} {a r b : Addr} {xs : List V} {p : Nat} (h : G a = some (.lst xs)) (h' : RdAt CR G r b p) : a ≠ r := by
  obtain ⟨dy, h'⟩ := h'
  exact ne_of h h' (by intro z; cases z)
def pures (st : List SF) : List (PD × List PT) := st.map fun s => (s.d, s.mem)
/-- between two turns; D: what has ended -/
structure Turn (CP CR : Addr) (H G D : Hp) (r a aw g : Addr) (bs : List UInt8) (R : Except Sw.Fault (PT × Nat)) (n p : Nat) (s : SF) (rest : List SF) : Prop where
  lst : G g = some (.lst (((s :: rest).map (·.a)).reverse.map V.ref))
  st : StOk CP p bs G D [] (s :: rest)
  ds : Dist H D g (s :: rest)
  bot : ((s :: rest).map (·.a)).getLast? = some aw
  run : Pm.fin bs (pures rest) s.d s.mem p = R
  ms : n = 2 * (bs.length - p) + (s :: rest).length
  dep : (s :: rest).length ≤ p
  dn : Same D G
  dg : D g = none
  dr : D r = none
structure Base (CR : Addr) (H G : Hp) (r a : Addr) (p : Nat) (bs : List UInt8) : Prop where
  same : Same H G
  rd : RdAt CR G r a p
  le : p ≤ bs.length
theorem mem_used {named : Bool} {prev : Option (List UInt8)} {lv p : Nat} {bs : List UInt8} {x : Nat × Nat × Nat × Nat × Nat × Nat} (h : Pm.memAt named prev lv p (bs.drop p) = .ok x) (hp : p ≤ bs.length) :
    p + x.2.1 + x.1 + x.2.2.2.2.2 ≤ bs.length ∧ 1 ≤ x.2.2.2.2.2 := by
  unfold Pm.memAt at h
  cases en : Pm.nmAt named prev p (bs.drop p) with
  | error e => rw [en] at h; cases h
  | ok y =>
    obtain ⟨k, l⟩ := y
    rw [en] at h
    have n1 := Pm.nm_used en
    rw [List.length_drop] at n1
    dsimp only at h
    cases eh : Pm.headAt lv (p + l + k) ((bs.drop p).drop (l + k)) with
    | error e => rw [eh] at h; cases h
    | ok z =>
      obtain ⟨kd, n, i, u⟩ := z
      rw [eh] at h
      have h1 := Pm.head_used eh
      rw [List.length_drop, List.length_drop] at h1
      injection h with h
      subst h
      dsimp only
      omega
theorem prev_last {CP : Addr} {p : Nat} {G D G1 : Hp} {bs : List UInt8} {s : SF} {ch : List Addr} (f : FrOk CP p bs G D s ch) (k : Same D G1) : Last CP G1 s.as (Pm.prevOf bs s.mem) := by
  unfold Last Pm.prevOf
  have l1 := f.mem.len
  rw [List.getLast?_eq_getElem?, List.getLast?_eq_getElem?, ← l1]
  cases e : s.as[s.as.length - 1]? with
  | none =>
    have l0 := List.getElem?_eq_none_iff.mp e
    rw [List.getElem?_eq_none_iff.mpr (by omega)]
  | some x =>
    obtain ⟨t, e2, h⟩ := f.mem.get e
    rw [e2]
    obtain ⟨n', l', ⟨dx, h'⟩, hn⟩ := h.pt
    exact ⟨t.d, n', l', _, ⟨dx, k _ _ h'⟩, k _ _ hn, rfl⟩
def spRW (K : PySem.W.Frag) (CF CP : Addr) : Sp := fun vs H Q E => ∃ (a : Addr) (bs : List UInt8), vs = [.ref a] ∧ SqL K H a (bs.map bv) ∧ bs.length ≤ 65536 ∧
  Out E CF (Pm.wholeAt bs) fun (t : PT) => ∀ (aw : Addr) (H' : Hp), TrOk CP bs H' aw t → Same H H' → Q (.ref aw) H'
section
variable {P : Program} {w : World} {K : PySem.W.Frag} {mg : Str → Option Value} {base : Heap} {CF CR CP fFI : Addr}
theorem scRW : FnScope ["row", "reader", "whole", "begun", "part"] ["row"] (defScope sRW) := ⟨rfl, rfl, rfl, by decide +kernel, rfl, by decide +kernel, by decide +kernel⟩
theorem ok_RW {f fRI fBP fLM fBM fDP : Addr} {fd fdI fdR fdB fdL fdM fdD : FuncData} (F : Fun K "read_whole" "read_whole" sRW f fd) (T : TxR K mg CF CR fFI) (TP : TxP K mg CP) (mRd : mg "Reader" = some (.ref CR)) (e8 : GI mg "BYTES_BEHIND" 8)
    (GI : FnOk P w K mg base CX0 1 fFI fdI ["self", "kind", "place"] (spXI CF)) (bI : Binds K fdI ["self", "kind", "place"] [])
    (M : Mk K CR fRI) (GR : FnOk P w K mg base CX0 1 fRI fdR ["self", "row"] (spRI CR)) (bR : Binds K fdR ["self", "row"] [])
    (GB : FnOk P w K mg base (CXF P w) 7 fBP fdB ["reader", "level"] (spBP K CF CR CP)) (bB : Binds K fdB ["reader", "level"] []) (kB : PySem.W.keepIn K (.ref fBP) = true) (mB : mg "begin_part" = some (.ref fBP))
    (GL : FnOk P w K mg base CX0 1 fLM fdL ["part"] (spLM CP)) (bL : Binds K fdL ["part"] []) (kL : PySem.W.keepIn K (.ref fLM) = true) (mL : mg "lacks_members" = some (.ref fLM))
    (GM : FnOk P w K mg base (CXF P w) 8 fBM fdM ["reader", "holder", "level"] (spBM K CF CR CP)) (bM : Binds K fdM ["reader", "holder", "level"] []) (kM : PySem.W.keepIn K (.ref fBM) = true) (mM : mg "begin_member" = some (.ref fBM))
    (GD : FnOk P w K mg base CX0 1 fDP fdD ["holder", "part"] (spDP CP)) (bD : Binds K fdD ["holder", "part"] []) (kD : PySem.W.keepIn K (.ref fDP) = true) (mD : mg "deepen" = some (.ref fDP)) :
    FnOk P w K mg base (CXF P w) 9 f fd ["row"] (spRW K CF CP) := by
  refine okX F scRW (fun vs H Q E h => ?_) (fun cdv A outer s H vs Q E hr h => ?_)
  · obtain ⟨a, bs, rfl, _⟩ := h
    rfl
  · obtain ⟨a, bs, rfl, hs, hz, q⟩ := h
    have hr1 : Room 1 _ := hr.mono (by decide)
    have hr2 : Room 2 _ := hr.mono (by decide)
    have hr7 : Room 7 _ := hr.mono (by decide)
    refine ⟨_, pss_cons (ps_set (i := 1) scRW.nd rfl (Or.inl rfl) (pe_make M GR hr2 rfl mRd bR .nil pass0 (pa_cons (pv 0) pa_nil)))
      (pss_cons (ps_set (i := 2) scRW.nd rfl (Or.inl rfl) (pe_call GB hr7 rfl mB kB bB .nil passX (pa_cons (pv 1) (pa_cons pe_int pa_nil))))
      (pss_cons (ps_set (i := 3) scRW.nd rfl (Or.inl rfl) (pe_lst (pa_cons (pv 2) pa_nil)))
      (pss_cons (ps_while PassesOwn.leaving (pt_truth (pv 3) (fun _ => rfl))
        (pss_cons (ps_set (i := 4) scRW.nd rfl (Or.inl rfl) (pe_ix ix_list (pv 3) (pe_un un_neg pe_int) (fun _ _ => rfl)))
        (pss_one (ps_if (pt_truth (pe_call GL hr1 rfl mL kL bL .nil pass0 (pa_cons (pv 4) pa_nil)) (fun _ => rfl))
          (pss_one (ps_expr (pe_bm PySem.F.plainAttrs_list PySem.F.slot_list_append PySem.F.type_list_append mt_append (pv 3) (pa_cons (pe_call GM hr rfl mM kM bM .nil passX
            (pa_cons (pv 1) (pa_cons (pv 4) (pa_cons (pe_op op_add (pe_callB call_len_seq (by rfl) T.len PySem.boot_len (pa_cons (pv 3) pa_nil)) pe_int) pa_nil)))) pa_nil))))
          (pss_cons (ps_fld (pv 4) (pe_fld (pv 1) rfl) rfl)
          (pss_cons (ps_expr (pe_bm0 PySem.F.plainAttrs_list PySem.F.slot_list_pop PySem.F.type_list_pop mt_pop (pv 3)))
          (pss_one (ps_if (pt_truth (pv 3) (fun _ => rfl)) (pss_one (ps_expr (pe_call GD hr1 rfl mD kD bD .nil pass0 (pa_cons (pe_ix ix_list (pv 3) (pe_un un_neg pe_int) (fun _ _ => rfl)) (pa_cons (pv 4) pa_nil))))) pss_nil))))))))
      (pss_cons (ps_if (pt_cmpR op_lt (pe_fld (pv 1) rfl) (pe_callB call_len_seq (by rfl) T.len PySem.boot_len (pa_cons (pv 0) pa_nil)) (nomark _))
        (pss_one (ps_raise T.xc GI bI hr2 flies_cx rfl rfl T.mF (pa_cons (pgi e8 rfl) (pa_cons (pe_fld (pv 1) rfl) pa_nil)))) pss_nil)
      (pss_one (ps_ret (pv 2))))))), ?_⟩
    refine ⟨_, rfl, fun r dr nr ndr nedr => ⟨r, dr, a, rfl, upd_same, fun H1 rd1 k1 => ⟨rfl, ?_⟩⟩⟩
    have s1 : Same H H1 := Same.made nr ndr k1
    refine ⟨_, rfl, r, a, 1, 0, bs, rfl, rd1, s1.seq hs, Nat.zero_le _, hz, ?_⟩
    rw [List.drop_zero]
    unfold Pm.wholeAt at q
    cases eh : Pm.headAt 1 0 bs with
    | error e =>
      rw [eh] at q
      exact q
    | ok x =>
      obtain ⟨k0, n0, i0, u0⟩ := x
      rw [eh] at q
      dsimp only at q
      obtain ⟨hu1, hu2, _⟩ := Pm.head_used eh
      rintro m nw l H2 ⟨nm, nn, nl, nml, nmn, nnl, ⟨xm, pt⟩, ns, ls⟩ rd2 k2
      dsimp only at pt rd2
      rw [Nat.zero_add] at pt
      refine ⟨_, rfl, (by show 1 ≤ sizeLine; decide), fun g hg => ?_⟩
      have s2 : Same H H2 := fun b o e => k2 b o (s1 b o e) (ne_of_none e nr)
      have s3 : Same H2 (upd H2 g (.lst [.ref m])) := fun b o e => (upd_ne (ne_of_none e hg)).trans e
      have nlg : l ≠ g := ne_of_none ls hg
      have nng : nw ≠ g := ne_of_none ns hg
      have nnr : nw ≠ r := fun z => by obtain ⟨dz, hz1⟩ := rd1; rw [z, hz1] at nn; cases nn
      have ngH : H g = none := s2.free hg
      generalize hR : Pm.fin bs [] ⟨k0, 0, i0, 0, n0, 1, 0, 0⟩ [] u0 = R at q
      refine ⟨fun n σ G => ∃ v4, σ = [some (.ref a), some (.ref r), some (.ref m), some (.ref g), v4] ∧ ∃ p, Base CR H G r a p bs ∧
        ((∃ D s rest, Turn CP CR H G D r a m g bs R n p s rest) ∨ (G g = some (.lst []) ∧ ∃ t, R = .ok (t, p) ∧ TrOk CP bs G m t)), ⟨2 * (bs.length - u0) + 1, ?_⟩, ?_⟩
      · refine ⟨none, rfl, u0, ⟨s2.trans s3, ?_, hu2⟩, .inl ⟨upd (fun _ => none) nw (.lst []), ⟨m, nw, l, [], ⟨k0, 0, i0, 0, n0, 1, 0, 0⟩, []⟩, [], ⟨upd_same, ⟨?_, trivial⟩, ?_, rfl, hR, rfl, hu1, ?_, by rw [upd_ne (Ne.symm nng)], by rw [upd_ne (Ne.symm nnr)]⟩⟩⟩
        · obtain ⟨dz, rz⟩ := rd2
          exact ⟨dz, s3 _ _ (by rw [rz, Nat.zero_add])⟩
        · exact ⟨⟨xm, s3 _ _ pt⟩, upd_same, s3 _ _ ls, .nil, hu1, Nat.le_refl 1⟩
        · exact ⟨by simp, by simp, fun s hs => by rw [List.mem_singleton.mp hs]; exact nlg, fun s hs => by rw [List.mem_singleton.mp hs]; exact ⟨by rw [upd_ne nmn], by rw [upd_ne (Ne.symm nnl)]⟩,
            fun s hs => by rw [List.mem_singleton.mp hs]; exact ⟨s1.free nm, s1.free nl⟩⟩
        · intro y o e
          by_cases yn : y = nw
          · rw [yn, upd_same] at e
            rw [yn, ← e]
            exact s3 _ _ ns
          · rw [upd_ne yn] at e
            cases e
      · rintro n σ G ⟨v4, rfl, p, B, hcase⟩
        rcases hcase with ⟨D, s, rest, T0⟩ | ⟨hgl, t, eR, hw⟩
        · -- a part is begun
          obtain ⟨hf, hrest⟩ := T0.st
          obtain ⟨xs, hpt⟩ := hf.pt
          have hls : G s.l = some (.lst (s.as.map V.ref)) := by
            have := hf.ls
            rw [List.append_nil] at this
            exact this
          have egl : (((s :: rest).map (·.a)).reverse.map V.ref) = ((rest.map (·.a)).reverse.map V.ref) ++ [V.ref s.a] := by
            rw [List.map_cons, List.reverse_cons, List.map_append]
            rfl
          have hgl := T0.lst
          refine ⟨_, rfl, _, .inl ⟨_, SqL.of hgl, rfl⟩, ?_⟩
          rw [show (!(((s :: rest).map (·.a)).reverse.map V.ref).isEmpty) = true by rw [egl]; simp]
          refine iteT ⟨_, fun σ' G' h => h, ?_⟩
          refine ⟨_, rfl, _, rfl, g, _, _, V.ref s.a, rfl, rfl, SqL.of hgl, by rw [egl]; exact atI_last _ _, ?_⟩
          refine ⟨_, rfl, s.a, s.n, s.l, s.d, s.as, rfl, ⟨xs, hpt⟩, hls, fun G1 sm => ⟨_, rfl, ?_⟩⟩
          have hlenH : ∀ {x : Addr}, G1 x = none → G x = none := fun h => sm.free h
          by_cases hc : (s.d.kind = 5 ∨ s.d.kind = 6) ∧ s.as.length < s.d.size
          · -- a member is begun
            rw [decide_eq_true hc]
            have hneed : s.mem.length < Pm.need s.d := by
              unfold Pm.need
              rw [if_pos hc.1, ← hf.mem.len]
              exact hc.2
            have hpush := Pm.fin_push bs (pures rest) s.d s.mem p hneed
            rw [T0.run, show (pures rest).length = rest.length from List.length_map ..] at hpush
            have ngr : g ≠ r := lst_ne_rd hgl B.rd
            have ngl : g ≠ s.l := Ne.symm (T0.ds.ng s (by simp))
            have nar : s.a ≠ r := pt_ne_rd ⟨xs, hpt⟩ B.rd
            have rd1' : RdAt CR G1 r a p := let ⟨z, hz'⟩ := B.rd; ⟨z, sm _ _ hz'⟩
            have elv : ((((s :: rest).map (·.a)).reverse.map V.ref).length : Int) + 1 = ((rest.length + 2 : Nat) : Int) := by
              rw [List.length_map, List.length_reverse, List.length_map, List.length_cons]
              omega
            refine iteT ⟨_, rfl, .inl ⟨rfl, _, SqL.of (sm _ _ hgl)⟩, _, rfl, _, rfl, _, rfl, g, _, rfl, .inl (SqL.of (sm _ _ hgl)), _, _, rfl, rfl,
              r, a, s.a, s.n, s.l, rest.length + 2, p, bs, s.d, s.as, Pm.prevOf bs s.mem, congrArg (fun z => [V.ref r, V.ref s.a, V.int z]) elv, rd1', (B.same.trans sm).seq hs, B.le, hz, ⟨xs, sm _ _ hpt⟩, sm _ _ hls, ?_, fun _ => prev_last hf (T0.dn.trans sm), ?_, ?_⟩
            · have := hf.bd
              have := B.le
              simp only [List.length_nil] at *
              omega
            · intro y hy
              obtain ⟨j, hj⟩ := List.getElem?_of_mem hy
              obtain ⟨t, _, ht⟩ := hf.mem.get hj
              obtain ⟨n', l', ⟨dx', hx'⟩, _⟩ := ht.pt
              exact ne_of_none hx' T0.dr
            · cases em : Pm.memAt (decide (s.d.kind = 6)) (Pm.prevOf bs s.mem) (rest.length + 2) p (bs.drop p) with
              | error e =>
                have em' : Pm.memAt (Pm.isRec s.d) (Pm.prevOf bs s.mem) (rest.length + 2) p (bs.drop p) = .error e := em
                rw [em'] at hpush
                rw [hpush] at q
                exact q
              | ok x =>
                have em' : Pm.memAt (Pm.isRec s.d) (Pm.prevOf bs s.mem) (rest.length + 2) p (bs.drop p) = .ok x := em
                rw [em'] at hpush
                obtain ⟨mu1, mu2⟩ := mem_used em B.le
                intro m' nw' lm G2 np rd2' hlh kk
                have hg1 := sm _ _ hgl
                have hg2 := kk g _ hg1 ngr ngl
                have nmg : m' ≠ g := fun z => by rw [← z, np.nm] at hg1; cases hg1
                have nlmg : lm ≠ g := fun z => by rw [← z, np.nl] at hg1; cases hg1
                have nnmg : nw' ≠ g := fun z => by rw [← z, np.nn] at hg1; cases hg1
                have hdep := T0.dep
                have hle := B.le
                refine ⟨g, _, _, rfl, rfl, hg2, by rw [List.length_map, List.length_reverse, List.length_map]; exact Nat.lt_of_le_of_lt (Nat.le_trans hdep (Nat.le_trans hle hz)) (by decide), ?_⟩
                generalize hG3 : upd G2 g (.lst ((((s :: rest).map (·.a)).reverse.map V.ref) ++ [V.ref m'])) = G3
                have stay : ∀ y o, G y = some o → y ≠ r → y ≠ s.l → y ≠ g → G3 y = some o := fun y o e h1 h2 h3 => by
                  rw [← hG3, upd_ne h3]
                  exact kk y o (sm y o e) h1 h2
                have pstay : ∀ y d n' l', PtAt CP G y d n' l' → ∀ o, G y = some o → G3 y = some o := fun y d n' l' hp o e => stay y o e (pt_ne_rd hp B.rd) (pt_ne_lst hp hls) (pt_ne_lst hp hgl)
                have dn3 : Same D G3 := fun y o e => stay y o (T0.dn y o e) (ne_of_none e T0.dr) (ne_of_none e (T0.ds.da s (by simp)).2) (ne_of_none e T0.dg)
                have trk : ∀ s' ∈ s :: rest, ∃ ch', FrOk CP p bs G D s' ch' := T0.st.fr
                have newne : ∀ {y : Addr} {o : HO}, G y = some o → y ≠ m' := fun e z => by
                  have := sm _ _ e
                  rw [z, np.nm] at this
                  cases this
                have newnl : ∀ {y : Addr} {o : HO}, G y = some o → y ≠ lm := fun e z => by
                  have := sm _ _ e
                  rw [z, np.nl] at this
                  cases this
                have newnn : ∀ {y : Addr} {o : HO}, G y = some o → y ≠ nw' := fun e z => by
                  have := sm _ _ e
                  rw [z, np.nn] at this
                  cases this
                generalize hD' : upd D nw' (.lst (nmOf bs (Pm.newD (decide (s.d.kind = 6)) p x))) = D'
                have Dnw : D nw' = none := (T0.dn.trans sm).free np.nn
                have sD : Same D D' := fun y o e => by rw [← hD', upd_ne (ne_of_none e Dnw)]; exact e
                have Dn : ∀ y, y ≠ nw' → D y = none → D' y = none := fun y h1 h2 => by rw [← hD', upd_ne h1]; exact h2
                have hnw3 : G3 nw' = some (.lst (nmOf bs (Pm.newD (decide (s.d.kind = 6)) p x))) := by rw [← hG3, upd_ne nnmg]; exact np.ns
                have dn3' : Same D' G3 := fun y o e => by
                  by_cases yn : y = nw'
                  · rw [yn, ← hD', upd_same] at e
                    rw [yn, ← e]
                    exact hnw3
                  · rw [← hD', upd_ne yn] at e
                    exact dn3 y o e
                refine ⟨2 * (bs.length - (p + x.2.1 + x.1 + x.2.2.2.2.2)) + (rest.length + 2), by rw [T0.ms, List.length_cons]; omega, _, rfl, p + x.2.1 + x.1 + x.2.2.2.2.2, ⟨fun b o e => ?_, ?_, mu1⟩,
                  .inl ⟨D', ⟨m', nw', lm, [], Pm.newD (decide (s.d.kind = 6)) p x, []⟩, s :: rest, ⟨?_, ⟨?_, ?_, ?_⟩, ?_, ?_, hpush.symm, by rw [List.length_cons, List.length_cons], by rw [List.length_cons, List.length_cons] at *; omega, dn3', Dn _ (Ne.symm nnmg) T0.dg, Dn _ (let ⟨z, hz'⟩ := B.rd; newnn hz') T0.dr⟩⟩⟩
                · exact stay b o (B.same b o e) (ne_of_none e nr) (ne_of_none e (T0.ds.f0 s (by simp)).2) (ne_of_none e ngH)
                · obtain ⟨dz, rz⟩ := rd2'
                  exact ⟨dz, by rw [← hG3, upd_ne (Ne.symm ngr)]; exact rz⟩
                · rw [← hG3, upd_same, List.map_cons (l := s :: rest), List.reverse_cons, List.map_append]
                  rfl
                · obtain ⟨dz, pz⟩ := np.pt
                  exact ⟨⟨dz, by rw [← hG3, upd_ne nmg]; exact pz⟩, by rw [← hD', upd_same], by rw [← hG3, upd_ne nlmg]; exact np.ls, .nil, by show 0 + 0 + 1 ≤ _; omega, Nat.le_refl 1⟩
                · refine ⟨⟨xs, pstay _ _ _ _ ⟨xs, hpt⟩ _ hpt⟩, sD _ _ hf.nm, by rw [← hG3, upd_ne (Ne.symm ngl)]; exact hlh, hf.mem.same sD, ?_, hf.dp⟩
                  have := hf.bd
                  simp only [List.length_nil, List.length_singleton] at *
                  omega
                · refine hrest.keep (by omega) sD fun s' hs' => ?_
                  obtain ⟨ch', f'⟩ := trk s' (by simp [hs'])
                  refine ⟨fun o e => pstay _ _ _ _ f'.pt o e, fun o e => stay _ o e (lst_ne_rd f'.ls B.rd) ?_ (T0.ds.ng s' (by simp [hs']))⟩
                  have nd := T0.ds.nl
                  rw [List.map_cons, List.nodup_cons] at nd
                  exact fun z => nd.1 (z ▸ List.mem_map_of_mem hs')
                · refine ⟨?_, ?_, fun s' hs' => ?_, fun s' hs' => ?_, fun s' hs' => ?_⟩
                  · rw [List.map_cons, List.nodup_cons]
                    refine ⟨fun hm => ?_, T0.ds.na⟩
                    obtain ⟨s', hs', e'⟩ := List.mem_map.mp hm
                    obtain ⟨ch', f'⟩ := trk s' hs'
                    obtain ⟨dz, pz⟩ := f'.pt
                    exact newne pz e'
                  · rw [List.map_cons, List.nodup_cons]
                    refine ⟨fun hm => ?_, T0.ds.nl⟩
                    obtain ⟨s', hs', e'⟩ := List.mem_map.mp hm
                    obtain ⟨ch', f'⟩ := trk s' hs'
                    exact newnl f'.ls e'
                  · rcases List.mem_cons.mp hs' with rfl | hs'
                    · exact nlmg
                    · exact T0.ds.ng s' hs'
                  · rcases List.mem_cons.mp hs' with rfl | hs'
                    · exact ⟨Dn _ np.nmn ((T0.dn.trans sm).free np.nm), Dn _ (Ne.symm np.nnl) ((T0.dn.trans sm).free np.nl)⟩
                    · obtain ⟨ch', f'⟩ := trk s' hs'
                      obtain ⟨dz, pz⟩ := f'.pt
                      exact ⟨Dn _ (newnn pz) (T0.ds.da s' hs').1, Dn _ (newnn f'.ls) (T0.ds.da s' hs').2⟩
                  · rcases List.mem_cons.mp hs' with rfl | hs'
                    · exact ⟨(B.same.trans sm).free np.nm, (B.same.trans sm).free np.nl⟩
                    · exact T0.ds.f0 s' hs'
                · have := T0.bot
                  rw [List.map_cons] at this
                  rw [List.map_cons, List.map_cons, List.getLast?_cons_cons]
                  exact this
          · -- it has them all
            rw [decide_eq_false hc]
            have hneed : Pm.need s.d ≤ s.mem.length := by
              unfold Pm.need
              rw [← hf.mem.len]
              by_cases hk : s.d.kind = 5 ∨ s.d.kind = 6
              · rw [if_pos hk]
                exact Nat.le_of_not_lt fun z => hc ⟨hk, z⟩
              · rw [if_neg hk]
                exact Nat.zero_le _
            have hpop := Pm.fin_pop bs (pures rest) s.d s.mem p hneed hf.dp
            rw [T0.run] at hpop
            obtain ⟨dr2, hrd⟩ := B.rd
            have nar : s.a ≠ r := pt_ne_rd ⟨xs, hpt⟩ B.rd
            have nag : s.a ≠ g := pt_ne_lst ⟨xs, hpt⟩ hgl
            have nal : s.a ≠ s.l := pt_ne_lst ⟨xs, hpt⟩ hls
            refine iteF ⟨_, rfl, r, CR, dr2, _, _, rfl, sm _ _ hrd, T.cR, T.nPl, rf_place a p, _, rfl, s.a, CP, xs, _, rfl, sm _ _ hpt, TP.cP, TP.nEn, (by show 9 < 1000; decide), ?_⟩
            generalize hG2 : upd G1 s.a (.ins CP xs (putF "end" (.int (p : Int)) (pf s.d s.n s.l))) = G2
            have hpt2 : G2 s.a = some (.ins CP xs (pf { s.d with fin := p } s.n s.l)) := by rw [← hG2, upd_same]; rfl
            have st2 : ∀ y o, G y = some o → y ≠ s.a → G2 y = some o := fun y o e h => by rw [← hG2, upd_ne h]; exact sm y o e
            have hg2 := st2 g _ hgl (Ne.symm nag)
            refine ⟨_, rfl, .inl ⟨rfl, _, SqL.of hg2⟩, g, _, V.ref s.a, rfl, rfl, hg2, by rw [egl, List.length_append, List.length_singleton, Nat.add_sub_cancel]; simp, ?_⟩
            rw [egl, List.dropLast_concat]
            generalize hG3 : upd G2 g (.lst ((rest.map (·.a)).reverse.map V.ref)) = G3
            have hg3 : G3 g = some (.lst ((rest.map (·.a)).reverse.map V.ref)) := by rw [← hG3, upd_same]
            have st3 : ∀ y o, G y = some o → y ≠ s.a → y ≠ g → G3 y = some o := fun y o e h1 h2 => by rw [← hG3, upd_ne h2]; exact st2 y o e h1
            have hpt3 : G3 s.a = some (.ins CP xs (pf { s.d with fin := p } s.n s.l)) := by rw [← hG3, upd_ne nag]; exact hpt2
            have sameG3 : Same H G3 := fun b o e => st3 b o (B.same b o e) (ne_of_none e (T0.ds.f0 s (by simp)).1) (ne_of_none e ngH)
            have dn3 : Same D G3 := fun y o e => st3 y o (T0.dn y o e) (ne_of_none e (T0.ds.da s (by simp)).1) (ne_of_none e T0.dg)
            have hls3 : G3 s.l = some (.lst (s.as.map V.ref)) := st3 _ _ hls (Ne.symm nal) (T0.ds.ng s (by simp))
            refine ⟨_, rfl, _, .inl ⟨_, SqL.of hg3, rfl⟩, ?_⟩
            cases rest with
            | nil =>
              refine iteF ⟨0, by rw [T0.ms, List.length_cons]; omega, _, rfl, p, ⟨sameG3, ⟨dr2, st3 _ _ hrd (Ne.symm nar) (Ne.symm (lst_ne_rd hgl B.rd))⟩, B.le⟩, .inr ⟨hg3, .node { s.d with fin := p } s.mem, hpop, ?_⟩⟩
              have hb : some s.a = some m := T0.bot
              injection hb with hb
              subst hb
              exact .mk ⟨xs, hpt3⟩ (dn3 _ _ hf.nm) hls3 (hf.mem.same dn3)
            | cons s2 rest2 =>
              obtain ⟨hf2, hrest2⟩ := hrest
              obtain ⟨xs2, hpt_2⟩ := hf2.pt
              have nd := T0.ds.na
              rw [List.map_cons, List.nodup_cons] at nd
              have nd2 := nd.2
              rw [List.map_cons, List.nodup_cons] at nd2
              have n12 : s2.a ≠ s.a := fun z => nd.1 (z ▸ by simp)
              have n2g : s2.a ≠ g := pt_ne_lst ⟨xs2, hpt_2⟩ hgl
              have hpt_23 := st3 _ _ hpt_2 n12 n2g
              rw [show (!((((s2 :: rest2).map (·.a)).reverse.map V.ref)).isEmpty) = true by rw [List.map_cons, List.reverse_cons, List.map_append]; simp]
              refine iteT ⟨_, rfl, _, rfl, g, _, _, V.ref s2.a, rfl, rfl, SqL.of hg3, by rw [List.map_cons, List.reverse_cons, List.map_append]; exact atI_last _ _, _, rfl,
                s2.a, s.a, s2.n, s2.l, s.n, s.l, s2.d, { s.d with fin := p }, rfl, ⟨xs2, hpt_23⟩, ⟨xs, hpt3⟩, fun G4 pt4 k4 => ?_⟩
              have st4 : ∀ y o, G y = some o → y ≠ s.a → y ≠ g → y ≠ s2.a → G4 y = some o := fun y o e h1 h2 h3 => k4 y o (st3 y o e h1 h2) h3
              have hls4 : G4 s.l = some (.lst (s.as.map V.ref)) := k4 _ _ hls3 (Ne.symm (pt_ne_lst ⟨xs2, hpt_2⟩ hls))
              generalize hD : upd (upd D s.a (.ins CP xs (pf { s.d with fin := p } s.n s.l))) s.l (.lst (s.as.map V.ref)) = D'
              obtain ⟨ds1, ds2⟩ := T0.ds.da s (by simp)
              have sD : Same D D' := fun y o e => by rw [← hD, upd_ne (ne_of_none e ds2), upd_ne (ne_of_none e ds1)]; exact e
              have Da : D' s.a = some (.ins CP xs (pf { s.d with fin := p } s.n s.l)) := by rw [← hD, upd_ne nal, upd_same]
              have Dl : D' s.l = some (.lst (s.as.map V.ref)) := by rw [← hD, upd_same]
              have Dn : ∀ y, y ≠ s.a → y ≠ s.l → D y = none → D' y = none := fun y h1 h2 h3 => by rw [← hD, upd_ne h2, upd_ne h1]; exact h3
              have dn4 : Same D' G4 := fun y o e => by
                by_cases y1 : y = s.l
                · rw [y1, Dl] at e
                  rw [y1, ← e]
                  exact hls4
                · by_cases y2 : y = s.a
                  · rw [y2, Da] at e
                    rw [y2, ← e]
                    exact k4 _ _ hpt3 (Ne.symm n12)
                  · rw [← hD, upd_ne y1, upd_ne y2] at e
                    exact st4 y o (T0.dn y o e) y2 (ne_of_none e T0.dg) (ne_of_none e (T0.ds.da s2 (by simp)).1)
              have ndl := T0.ds.nl
              rw [List.map_cons, List.nodup_cons] at ndl
              have Dst : ∀ s' ∈ s2 :: rest2, D' s'.a = none ∧ D' s'.l = none := fun s' hs' => by
                obtain ⟨ch', f'⟩ := T0.st.fr s' (List.mem_cons_of_mem _ hs')
                obtain ⟨q1, q2⟩ := T0.ds.da s' (List.mem_cons_of_mem _ hs')
                refine ⟨Dn _ (fun z => nd.1 (z ▸ List.mem_map_of_mem hs')) (pt_ne_lst f'.pt hls) q1, Dn _ (Ne.symm (pt_ne_lst ⟨xs, hpt⟩ f'.ls)) (fun z => ndl.1 (z ▸ List.mem_map_of_mem hs')) q2⟩
              refine ⟨2 * (bs.length - p) + (rest2.length + 1), by rw [T0.ms, List.length_cons, List.length_cons]; omega, _, rfl, p,
                ⟨fun b o e => k4 b o (sameG3 b o e) (ne_of_none e (T0.ds.f0 s2 (by simp)).1), ⟨dr2, st4 _ _ hrd (Ne.symm nar) (Ne.symm (lst_ne_rd hgl B.rd)) (Ne.symm (pt_ne_rd ⟨xs2, hpt_2⟩ B.rd))⟩, B.le⟩,
                .inl ⟨D', ⟨s2.a, s2.n, s2.l, s2.as ++ [s.a], { s2.d with depth := max s2.d.depth (s.d.depth + 1) }, s2.mem ++ [.node { s.d with fin := p } s.mem]⟩, rest2, ⟨?_, ⟨?_, ?_⟩, ?_, ?_, by rw [hpop]; rfl, by rw [List.length_cons], ?_, dn4,
                  Dn _ (Ne.symm nag) (Ne.symm (T0.ds.ng s (by simp))) T0.dg, Dn _ (Ne.symm nar) (Ne.symm (lst_ne_rd hls B.rd)) T0.dr⟩⟩⟩
              · exact k4 g _ hg3 (Ne.symm n2g)
              · refine ⟨pt4, sD _ _ hf2.nm, ?_, (hf2.mem.same sD).snoc (.mk ⟨xs, Da⟩ (sD _ _ hf.nm) Dl (hf.mem.same sD)), ?_, ?_⟩
                · show G4 s2.l = some (.lst ((s2.as ++ [s.a] ++ []).map V.ref))
                  rw [List.append_nil]
                  exact st4 _ _ hf2.ls (Ne.symm (pt_ne_lst ⟨xs, hpt⟩ hf2.ls)) (T0.ds.ng s2 (by simp)) (Ne.symm (pt_ne_lst ⟨xs2, hpt_2⟩ hf2.ls))
                · show (s2.as ++ [s.a]).length + 0 + 1 ≤ p
                  have := hf2.bd
                  rw [List.length_append]
                  simp only [List.length_singleton] at *
                  omega
                · show 1 ≤ max s2.d.depth (s.d.depth + 1)
                  omega
              · refine hrest2.keep (Nat.le_refl _) sD fun s' hs' => ?_
                obtain ⟨ch', f'⟩ := T0.st.fr s' (by simp [hs'])
                refine ⟨fun o e => ?_, fun o e => ?_⟩
                · refine st4 _ o e (fun z => nd.1 (z ▸ ?_)) (pt_ne_lst f'.pt hgl) (fun z => nd2.1 (z ▸ List.mem_map_of_mem hs'))
                  rw [List.map_cons]
                  exact List.mem_cons_of_mem _ (List.mem_map_of_mem hs')
                · exact st4 _ o e (Ne.symm (pt_ne_lst ⟨xs, hpt⟩ f'.ls)) (T0.ds.ng s' (by simp [hs'])) (Ne.symm (pt_ne_lst ⟨xs2, hpt_2⟩ f'.ls))
              · refine ⟨nd.2, ndl.2, fun s' hs' => ?_, fun s' hs' => ?_, fun s' hs' => ?_⟩
                · rcases List.mem_cons.mp hs' with rfl | hs'
                  · exact T0.ds.ng s2 (by simp)
                  · exact T0.ds.ng s' (by simp [hs'])
                · rcases List.mem_cons.mp hs' with rfl | hs'
                  · exact Dst s2 (by simp)
                  · exact Dst s' (by simp [hs'])
                · rcases List.mem_cons.mp hs' with rfl | hs'
                  · exact T0.ds.f0 s2 (by simp)
                  · exact T0.ds.f0 s' (by simp [hs'])
              · have := T0.bot
                rw [List.map_cons, List.map_cons, List.getLast?_cons_cons] at this
                exact this
              · have := T0.dep
                rw [List.length_cons, List.length_cons] at this
                rw [List.length_cons]
                omega
        · -- none is left
          refine ⟨_, rfl, _, .inl ⟨_, SqL.of hgl, rfl⟩, iteF ?_⟩
          subst eR
          obtain ⟨dr2, hrd⟩ := B.rd
          have hsq := B.same.seq hs
          refine ⟨_, rfl, r, CR, dr2, _, _, rfl, hrd, T.cR, T.nPl, rf_place a p, _, rfl, a, _, rfl, .inl hsq, _, _, rfl, rfl, _, rfl, ?_⟩
          rw [List.length_map]
          dsimp only at q
          by_cases hlt : p < bs.length
          · rw [if_pos hlt] at q
            rw [decide_eq_true (show (p : Int) < (bs.length : Int) by omega)]
            exact iteT ⟨_, rfl, r, CR, dr2, _, _, rfl, hrd, T.cR, T.nPl, rf_place a p, _, _, rfl, q⟩
          · rw [if_neg hlt] at q
            rw [decide_eq_false (show ¬ (p : Int) < (bs.length : Int) by omega)]
            exact iteF ⟨_, rfl, q m G hw B.same⟩
end
end L2.J

set_option Elab.async false
set_option linter.all false
set_option maxRecDepth 100000
set_option maxHeartbeats 2000000
namespace L2.J
open PySem PySem.Spec PyProof.Rows L2.XC
end L2.J

set_option Elab.async false
set_option linter.all false
set_option maxRecDepth 100000
set_option maxHeartbeats 2000000
namespace L2.J
open PySem PySem.Spec PyProof.Rows L2.XC
section
variable {P : Program} {w : World} {K : PySem.W.Frag} {mg : Str → Option Value} {base : Heap} {CF CR CP fFI : Addr}
theorem scIB : FnScope ["row", "part"] ["row", "part"] (defScope sIB) := ⟨rfl, rfl, rfl, by decide +kernel, rfl, by decide +kernel, by decide +kernel⟩
theorem ok_IB {f : Addr} {fd : FuncData} (F : Fun K "inner_bytes" "inner_bytes" sIB f fd) (TP : TxP K mg CP) : FnOk P w K mg base CX0 1 f fd ["row", "part"] (spIB K CP) := by
  refine F.ok scIB (fun vs H Q E h => ?_) (fun cdv A outer s H vs Q E hr h => ?_)
  · obtain ⟨a, m, n, l, d, bs, rfl, _⟩ := h
    rfl
  · obtain ⟨a, m, n, l, d, bs, rfl, hs, ⟨dx, hm⟩, h1, h2, q⟩ := h
    refine ⟨_, pss_one (ps_ret (pe_slice sl_list (pv 0) (po_some (pe_fld (pv 1) rfl)) (po_some (pe_fld (pv 1) rfl)))), ?_⟩
    refine ⟨_, rfl, _, rfl, m, CP, dx, _, _, rfl, hm, TP.cP, TP.nIn, rfl, _, rfl, _, rfl, m, CP, dx, _, _, rfl, hm, TP.cP, TP.nEn, rfl, _, rfl, a, _, rfl, hs, fun x hx => ?_⟩
    have e := cut_bytes bs d.ins (d.fin - d.ins) (by omega) (x := (d.ins : Int)) (y := (d.fin : Int)) rfl (by omega)
    rw [e]
    exact q x hx
end
end L2.J

set_option Elab.async false
set_option linter.all false
set_option maxRecDepth 100000
set_option maxHeartbeats 2000000
namespace L2.J
open PySem PySem.Spec PyProof.Rows L2.XC
/-! ### a value's part -/
/-- at m stands the part of the value v at place p, its name n at np -/
structure Nd (CP : Addr) (H : Hp) (bs : List UInt8) (m : Addr) (v : Sw.Value) (p np : Nat) (n : List UInt8) : Prop where
  tr : TrOk CP bs H m (Pm.trV v p np n.length)
  at_ : Pm.At bs p v
  nm : (bs.drop np).take n.length = n ∧ np + n.length ≤ bs.length
  pl : v.plain = true
theorem Nd.same {CP : Addr} {H H' : Hp} {bs : List UInt8} {m : Addr} {v : Sw.Value} {p np : Nat} {n : List UInt8} (h : Nd CP H bs m v p np n) (k : Same H H') : Nd CP H' bs m v p np n := ⟨h.tr.same k, h.at_, h.nm, h.pl⟩
/-- its attributes, its members -/
theorem Nd.pt {CP : Addr} {H : Hp} {bs : List UInt8} {m : Addr} {v : Sw.Value} {p np : Nat} {n : List UInt8} (h : Nd CP H bs m v p np n) :
    ∃ (nl l : Addr) (as : List Addr) (dx : Addr), H nl = some (.lst (n.map bv)) ∧ H m = some (.ins CP dx (pf (Pm.pdOf v p np n.length) nl l)) ∧ H l = some (.lst (as.map V.ref)) ∧ as.length = (Pm.rowOf v).length ∧
      ∀ (i : Nat) (a : Addr), as[i]? = some a → ∃ n' w np', v.member i = some (n', w) ∧ Nd CP H bs a w (Pm.mplace v p i) np' n' := by
  have ht := h.tr
  rw [Pm.trV_eq] at ht
  cases ht with
  | mk h1 h0 h2 h3 =>
    rename_i nl l as
    obtain ⟨dx, h1⟩ := h1
    have en : nmOf bs (Pm.pdOf v p np n.length) = n.map bv := congrArg (List.map bv) h.nm.1
    refine ⟨nl, l, as, dx, by rw [← en]; exact h0, h1, h2, by rw [h3.len, Pm.trM_len], fun i a e => ?_⟩
    obtain ⟨t, e1, e2⟩ := h3.get e
    rw [Pm.trM_get] at e1
    cases em : v.member i with
    | none => rw [em] at e1; cases e1
    | some x =>
      obtain ⟨n', w⟩ := x
      rw [em] at e1
      have e1 : some (Pm.trV w (Pm.mplace v p i) (if Pm.namedOf v = true then Pm.mplace v p i - n'.length else 0) n'.length) = some t := e1
      injection e1 with e1
      subst e1
      obtain ⟨a1, a2⟩ := h.at_.mem em
      obtain ⟨b1, b2⟩ := Pm.name_of h.pl em
      refine ⟨n', w, _, rfl, e2, a1, ?_, Pm.plain_mem h.pl em⟩
      cases hn : Pm.namedOf v with
      | true =>
        obtain ⟨c1, c2⟩ := a2 hn
        have := a1.le
        rw [if_pos rfl]
        exact ⟨c2, by omega⟩
      | false =>
        rw [if_neg Bool.false_ne_true, b1 hn]
        exact ⟨rfl, by simp⟩
/-- the whole -/
theorem Nd.whole {CP : Addr} {H : Hp} {bs : List UInt8} {m : Addr} {v : Sw.Value} (h : TrOk CP bs H m (Pm.trV v 0 0 0)) (e : v.enc = bs) (pl : v.plain = true) : Nd CP H bs m v 0 0 [] :=
  ⟨h, by unfold Pm.At; rw [e]; exact ⟨[], by simp⟩, ⟨rfl, by simp⟩, pl⟩
def spAO (K : PySem.W.Frag) : Sp := fun vs H Q _ => ∃ (x : Addr) (b : List UInt8), vs = [.ref x] ∧ SqL K H x (b.map bv) ∧ Q (.int ((Sw.ofLe b : Nat) : Int)) H
def spNO (K : PySem.W.Frag) (CP : Addr) : Sp := fun vs H Q _ => ∃ (a m : Addr) (bs : List UInt8) (z : Int) (p np : Nat) (n : List UInt8), vs = [.ref a, .ref m] ∧ SqL K H a (bs.map bv) ∧ Nd CP H bs m (.num z) p np n ∧ ∀ H' : Hp, Same H H' → Q (.int z) H'
section
variable {P : Program} {w : World} {K : PySem.W.Frag} {mg : Str → Option Value} {base : Heap} {CF CR CP fFI : Addr}
theorem scAO : FnScope ["row", "amount", "byte"] ["row"] (defScope sAO) := ⟨rfl, rfl, rfl, by decide +kernel, rfl, by decide +kernel, by decide +kernel⟩
theorem ok_AO {f : Addr} {fd : FuncData} (F : Fun K "amount_of" "amount_of" sAO f fd) (hrev : mg "reversed" = none) : FnOk P w K mg base CX0 1 f fd ["row"] (spAO K) := by
  refine F.ok scAO (fun vs H Q E h => ?_) (fun cdv A outer s H vs Q E hr h => ?_)
  · obtain ⟨x, b, rfl, _⟩ := h
    rfl
  · obtain ⟨x, b, rfl, hs, q⟩ := h
    refine ⟨_, pss_cons (ps_set (i := 1) scAO.nd rfl (Or.inl rfl) pe_int)
      (pss_cons (ps_for PassesOwn.never rfl (pi_reversed rfl hrev (pa_cons (pv 0) pa_nil)) (pg_name (i := 2) scAO.nd rfl (Or.inl rfl))
        (pss_one (ps_set (i := 1) scAO.nd rfl (Or.inl rfl) (pe_op op_add (pe_op op_mul (pv 1) pe_int) (pv 2)))))
      (pss_one (ps_ret (pv 1)))), ?_⟩
    refine ⟨_, rfl, x, _, rfl, hs, for_rev (xs := b.map bv) (fun i σ H' => H' = H ∧ ∃ (am : Int) (v2 : Option V), σ = [some (.ref x), some (.int am), v2] ∧ am = ((Sw.ofLe (b.drop (b.length - i)) : Nat) : Int)) ⟨rfl, 0, none, rfl, ?_⟩ ?_ ?_ ?_⟩
    · rw [Nat.sub_zero, List.drop_length]
      rfl
    · rintro i σ H' _ ⟨rfl, _⟩
      exact hs
    · rintro i y σ H' hi hy ⟨rfl, am, v2, rfl, ham⟩
      rw [List.length_map] at hi hy
      rw [List.getElem?_map] at hy
      have hlt : b.length - 1 - i < b.length := by omega
      rw [List.getElem?_eq_getElem hlt] at hy
      have hy : bv b[b.length - 1 - i] = y := Option.some.inj hy
      subst hy
      have ed : b.drop (b.length - (i + 1)) = b[b.length - 1 - i] :: b.drop (b.length - i) := by
        have e1 : b.length - (i + 1) = b.length - 1 - i := by omega
        have e2 : b.length - 1 - i + 1 = b.length - i := by omega
        rw [e1, List.drop_eq_getElem_cons hlt, e2]
      generalize b[b.length - 1 - i] = c at ed
      refine ⟨_, rfl, _, _, rfl, rfl, .inr ⟨by decide, by decide⟩, _, rfl, _, _, rfl, rfl, ?_⟩
      refine ⟨rfl, _, _, rfl, ?_⟩
      rw [ed]
      show am * 256 + (c.toNat : Int) = ((c.toNat + 256 * Sw.ofLe (b.drop (b.length - i)) : Nat) : Int)
      rw [ham]
      omega
    · rintro σ H' ⟨rfl, am, v2, rfl, ham⟩
      rw [List.length_map, Nat.sub_self, List.drop_zero] at ham
      rw [← ham] at q
      exact ⟨_, rfl, q⟩
theorem scNO : FnScope ["row", "part", "amount", "told"] ["row", "part"] (defScope sNO) := ⟨rfl, rfl, rfl, by decide +kernel, rfl, by decide +kernel, by decide +kernel⟩
theorem ok_NO {f fIB fAO : Addr} {fd fdI fdA : FuncData} (F : Fun K "number_of" "number_of" sNO f fd) (TP : TxP K mg CP)
    (GI : FnOk P w K mg base CX0 1 fIB fdI ["row", "part"] (spIB K CP)) (bI : Binds K fdI ["row", "part"] []) (kI : PySem.W.keepIn K (.ref fIB) = true) (mI : mg "inner_bytes" = some (.ref fIB))
    (GA : FnOk P w K mg base CX0 1 fAO fdA ["row"] (spAO K)) (bA : Binds K fdA ["row"] []) (kA : PySem.W.keepIn K (.ref fAO) = true) (mA : mg "amount_of" = some (.ref fAO)) :
    FnOk P w K mg base CX0 2 f fd ["row", "part"] (spNO K CP) := by
  refine F.ok scNO (fun vs H Q E h => ?_) (fun cdv A outer s H vs Q E hr h => ?_)
  · obtain ⟨a, m, bs, z, p, np, n, rfl, _⟩ := h
    rfl
  · obtain ⟨a, m, bs, z, p, np, n, rfl, hs, nd, q⟩ := h
    refine ⟨_, pss_cons (ps_set (i := 2) scNO.nd rfl (Or.inl rfl) (pe_call GA hr rfl mA kA bA .nil pass0 (pa_cons (pe_call GI hr rfl mI kI bI .nil pass0 (pa_cons (pv 0) (pa_cons (pv 1) pa_nil))) pa_nil)))
      (pss_cons (ps_set (i := 3) scNO.nd rfl (Or.inl rfl) (pe_ix ix_list (pv 0) (pe_op op_add (pe_fld (pv 1) rfl) pe_int) (fun _ _ => rfl)))
      (pss_one (ps_ret (pe_ifExp (pt_cmpR op_eq (pe_op op_mod (pv 3) pe_int) pe_int (nomark _)) (pe_un un_neg (pv 2)) (pv 2))))), ?_⟩
    obtain ⟨nn, l, as, dx, hn, h1, _⟩ := nd.pt
    obtain ⟨i1, i2⟩ := nd.at_.inner
    have hle := nd.at_.le
    obtain ⟨c, hc, hsg⟩ := nd.at_.sign
    refine ⟨_, rfl, _, rfl, a, m, nn, l, _, bs, rfl, hs, ⟨dx, h1⟩, by show p + Pm.ioff _ ≤ p + _; omega, hle, fun x hx => ?_⟩
    have k1 : Same H (upd H x (.lst (((bs.drop (Pm.pdOf (.num z) p np n.length).ins).take ((Pm.pdOf (.num z) p np n.length).fin - (Pm.pdOf (.num z) p np n.length).ins)).map bv))) := fun b o e => (upd_ne (ne_of_none e hx)).trans e
    have i1' : ((bs.drop (Pm.pdOf (.num z) p np n.length).ins).take ((Pm.pdOf (.num z) p np n.length).fin - (Pm.pdOf (.num z) p np n.length).ins)) = Pm.inner (.num z) := i1
    refine ⟨x, Pm.inner (.num z), rfl, by rw [i1']; exact SqL.of upd_same, ?_⟩
    rw [Pm.num_of]
    refine ⟨_, rfl, _, rfl, m, CP, dx, _, _, rfl, k1 _ _ h1, TP.cP, TP.nPl, rfl, _, _, rfl, rfl, a, _, _, bv c, rfl, rfl, k1.seq hs, at_of (show (((p : Nat) : Int) + 1) = ((p + 1 : Nat) : Int) by omega) (by rw [List.getElem?_map, hc]; rfl), ?_⟩
    have e2 : ((c.toNat : Int) % 2) = ((c.toNat % 2 : Nat) : Int) := by omega
    refine ⟨_, rfl, _, _, rfl, rfl, (by show (0 : Int) < 2; decide), rfl, _, rfl, ?_⟩
    rw [dint, e2, hsg]
    by_cases hz : z < 0
    · rw [if_pos hz, decide_eq_true (by decide)]
      refine iteT ⟨_, rfl, _, rfl, ?_⟩
      show Q (V.int (-((z.natAbs : Nat) : Int))) _
      rw [show -((z.natAbs : Nat) : Int) = z by omega]
      exact q _ k1
    · rw [if_neg hz, decide_eq_false (by decide)]
      refine iteF ⟨_, rfl, ?_⟩
      show Q (V.int ((z.natAbs : Nat) : Int)) _
      rw [show ((z.natAbs : Nat) : Int) = z by omega]
      exact q _ k1
end
end L2.J

set_option Elab.async false
set_option linter.all false
set_option maxRecDepth 100000
set_option maxHeartbeats 2000000
namespace L2.J
open PySem PySem.Spec PyProof.Rows L2.XC
def spVR : Sp := fun vs H Q _ => ∃ n : Nat, vs = [.int (n : Int)] ∧ n < 34359738368 ∧ ∀ (x : Addr) (H' : Hp), Same H H' → H x = none → H' x = some (.lst ((Sw.vary n).map bv)) → Q (.ref x) H'
section
variable {P : Program} {w : World} {K : PySem.W.Frag} {mg : Str → Option Value} {base : Heap}
theorem scVR : FnScope ["amount", "row", "left"] ["amount"] (defScope sVR) := ⟨rfl, rfl, rfl, by decide +kernel, rfl, by decide +kernel, by decide +kernel⟩
theorem ok_VR {f : Addr} {fd : FuncData} (F : Fun K "vary_row" "vary_row" sVR f fd) : FnOk P w K mg base CX0 1 f fd ["amount"] spVR := by
  refine F.ok scVR (fun vs H Q E h => ?_) (fun cdv A outer s H vs Q E hr h => ?_)
  · obtain ⟨n, rfl, _⟩ := h
    rfl
  · obtain ⟨n, rfl, hn, q⟩ := h
    refine ⟨_, pss_cons (ps_set (i := 1) scVR.nd rfl (Or.inl rfl) (pe_lst pa_nil))
      (pss_cons (ps_set (i := 2) scVR.nd rfl (Or.inl rfl) (pv 0))
      (pss_cons (ps_while PassesOwn.never (pt_cmpR op_ge (pv 2) pe_int (nomark _))
        (pss_cons (ps_expr (pe_bm PySem.F.plainAttrs_list PySem.F.slot_list_append PySem.F.type_list_append mt_append (pv 1) (pa_cons (pe_op op_add (pe_op op_mod (pv 2) pe_int) pe_int) pa_nil)))
        (pss_one (ps_set (i := 2) scVR.nd rfl (Or.inl rfl) (pe_op op_fdiv (pv 2) pe_int)))))
      (pss_cons (ps_expr (pe_bm PySem.F.plainAttrs_list PySem.F.slot_list_append PySem.F.type_list_append mt_append (pv 1) (pa_cons (pv 2) pa_nil)))
      (pss_one (ps_ret (pv 1)))))), ?_⟩
    refine ⟨(by show 0 ≤ sizeLine; decide), fun x hx => ?_⟩
    refine ⟨_, rfl, fun m σ G => ∃ (acc : List UInt8) (left : Nat), σ = [some (.int (n : Int)), some (.ref x), some (.int (left : Int))] ∧ Same H G ∧ G x = some (.lst (acc.map bv)) ∧ acc ++ Sw.vary left = Sw.vary n ∧ m = left, ⟨n, [], n, rfl, fun b o e => (upd_ne (ne_of_none e hx)).trans e, upd_same, rfl, rfl⟩, ?_⟩
    rintro m σ G ⟨acc, left, rfl, k, hG, hv, hm⟩
    have hsh := vary_len5 (n := n) (by omega)
    have hal : acc.length + (Sw.vary left).length = (Sw.vary n).length := by rw [← hv, List.length_append]
    have hbd : acc.length < sizeLine := by rw [sizeLine_eq]; omega
    refine ⟨_, rfl, _, _, rfl, rfl, _, rfl, ?_⟩
    by_cases c : left < 128
    · rw [decide_eq_false (show ¬ ((128 : Int) ≤ ((left : Nat) : Int)) by omega)]
      refine iteF ⟨_, rfl, .inl ⟨rfl, _, SqL.of hG⟩, _, rfl, x, _, _, rfl, rfl, hG, by rw [List.length_map]; exact hbd, _, rfl, ?_⟩
      refine q x _ (fun b o e => (upd_ne (ne_of_none e hx)).trans (k b o e)) hx ?_
      rw [upd_same, ← hv, vary_lt c, List.map_append]
      show _ = some (HO.lst (acc.map bv ++ [bv (UInt8.ofNat left)]))
      rw [bv_of (by omega)]
    · rw [decide_eq_true (show ((128 : Int) ≤ ((left : Nat) : Int)) by omega)]
      refine iteT ⟨_, fun σ' G' h => h, ?_⟩
      refine ⟨_, rfl, .inl ⟨rfl, _, SqL.of hG⟩, _, rfl, _, _, rfl, rfl, (by show (0 : Int) < 128; decide), _, _, rfl, rfl, x, _, _, rfl, rfl, hG, by rw [List.length_map]; exact hbd, ?_⟩
      refine ⟨_, rfl, _, _, rfl, rfl, ⟨by decide, by decide⟩, left / 128, by omega, acc ++ [UInt8.ofNat (128 + left % 128)], left / 128, ?_, fun b o e => (upd_ne (ne_of_none e hx)).trans (k b o e), ?_, ?_, rfl⟩
      · show [some (V.int (n : Int)), some (V.ref x), some (V.int (((left : Nat) : Int) / 128))] = _
        rw [show (((left : Nat) : Int) / 128) = ((left / 128 : Nat) : Int) by omega]
      · rw [upd_same, List.map_append]
        show some (HO.lst (acc.map bv ++ [V.int (((left : Nat) : Int) % 128 + 128)])) = some (HO.lst (acc.map bv ++ [bv (UInt8.ofNat (128 + left % 128))]))
        rw [bv_of (by omega), show (((left : Nat) : Int) % 128 + 128) = ((128 + left % 128 : Nat) : Int) by omega]
      · rw [List.append_assoc]
        show acc ++ (UInt8.ofNat (128 + left % 128) :: Sw.vary (left / 128)) = _
        rw [← vary_ge c, hv]
end
end L2.J

set_option Elab.async false
set_option linter.all false
set_option maxRecDepth 100000
set_option maxHeartbeats 2000000
namespace L2.J
open PySem PySem.Spec PyProof.Rows L2.XC
/-! ### refusals -/
theorem exm_mk {K : PySem.W.Frag} {C T : Addr} {b : Bool} {oc : Value} {od : Option Addr} {cd : ClassData} {sl : Array (Option Value)} (h1 : PySem.W.subIn K (.ref T) (.type "BaseException") = some true) (h2 : K.lookup T = some ⟨oc, od, .cls cd, sl⟩) (h3 : PySem.W.typeIn K (.ref T) = some (.type "type"))
    (h4 : PySem.W.subIn K (.ref C) (.ref T) = some b) : PySem.W.exmOne K (.ref C) (.ref T) = some b := by
  unfold PySem.W.exmOne
  rw [h1, if_pos (by decide)]
  unfold PySem.W.kitCls
  have hc : PySem.W.clsIn K T = some cd := by
    unfold PySem.W.clsIn
    rw [h2]
  show (if ((PySem.W.clsIn K T).isSome && PySem.W.typeIn K (.ref T) == some (.type "type")) = true then PySem.W.subIn K (.ref C) (.ref T) else none) = some b
  rw [hc, h3, if_pos (by simp), h4]
def spUI (K : PySem.W.Frag) (U : Addr) : Sp := fun vs H Q _ => ∃ (e C fI : Addr) (v : V), vs = [.ref e, v] ∧ UCls K U C fI ∧ H e = some (XE e C none) ∧ ∀ dx, H dx = none → dx ≠ e → Q .non (upd (upd H dx (XD dx [("answer", v)])) e (XE e C (some dx)))
def aNP : List V → List V := fun _ => [.int (-5)]
def aNR : List V → List V := fun _ => [.int (-4)]
def aNV : List V → List V := fun _ => [.int (-9)]
section
variable {P : Program} {w : World} {K : PySem.W.Frag} {mg : Str → Option Value} {base : Heap} {CF CR CP fFI U : Addr}
theorem scUI : FnScope ["self", "answer"] ["self", "answer"] (defScope sUI) := ⟨rfl, rfl, rfl, by decide +kernel, rfl, by decide +kernel, by decide +kernel⟩
theorem ok_UI {f : Addr} {fd : FuncData} (F : Fun K "__init__" "Refusal.__init__" sUI f fd) : FnOk P w K mg base CX0 1 f fd ["self", "answer"] (spUI K U) := by
  refine F.ok scUI (fun vs H Q E h => ?_) (fun cdv A outer s H vs Q E hr h => ?_)
  · obtain ⟨e, C, fI, v, rfl, _⟩ := h
    rfl
  · obtain ⟨e, C, fI, v, rfl, c, he, q⟩ := h
    refine ⟨_, pss_one (ps_u1 (U := U) (pv 0) (pv 1) rfl), ?_⟩
    exact ⟨_, rfl, _, rfl, e, C, fI, rfl, c, he, fun dx h1 h2 => q dx h1 h2⟩
/-- what the calls of Refusal.__init__ leave -/
theorem ui_end {e C a dx : Addr} {H : Hp} {ans : List V} (he : H e = some (XE e C none)) (ha : H a = none) (hd : upd H a (.lst ans) dx = none) (ne : dx ≠ e) :
    let H' := upd (upd (upd H a (.lst ans)) dx (XD dx [("answer", .ref a)])) e (XE e C (some dx))
    H' e = some (XE e C (some dx)) ∧ H' dx = some (XD dx [("answer", .ref a)]) ∧ H' a = some (.lst ans) := by
  have nae : a ≠ e := fun z => by rw [z, he] at ha; cases ha
  have nad : a ≠ dx := fun z => by rw [z, upd_same] at hd; cases hd
  refine ⟨upd_same, ?_, ?_⟩
  · rw [upd_ne ne]; exact upd_same
  · rw [upd_ne nae, upd_ne nad]; exact upd_same
theorem scU5 : FnScope ["self"] ["self"] (defScope sU5) := ⟨rfl, rfl, rfl, by decide +kernel, rfl, by decide +kernel, by decide +kernel⟩
theorem ok_U5 {f fUI C fI : Addr} {fd fdU : FuncData} (F : Fun K "__init__" "NoNumber.__init__" sU5 f fd) (uc : UCls K U C fI) (cU : ClsFn K U "__init__" fUI) (mU : mg "Refusal" = some (.ref U)) (GU : FnOk P w K mg base CX0 1 fUI fdU ["self", "answer"] (spUI K U)) (bU : Binds K fdU ["self", "answer"] []) :
    FnOk P w K mg base CX0 2 f fd ["self"] (spSI C 0 aNP) := by
  refine F.ok scU5 (fun vs H Q E h => ?_) (fun cdv A outer s H vs Q E hr h => ?_)
  · obtain ⟨e, rest, rfl, hn, _⟩ := h
    rw [List.length_cons, hn]
    rfl
  · obtain ⟨e, rest, rfl, hn, he, q⟩ := h
    obtain rfl : rest = [] := List.length_eq_zero_iff.mp hn
    refine ⟨_, pss_one (ps_expr (pe_clsm rfl mU cU GU hr bU .nil pass0 (pa_cons (pv 0) (pa_cons (pe_lst (pa_cons (pe_un un_neg pe_int) pa_nil)) pa_nil)))), ?_⟩
    refine ⟨_, rfl, _, rfl, (by show 1 ≤ sizeLine; decide), fun a ha => ⟨e, C, fI, .ref a, rfl, uc, ?_, fun dx hd ne => ?_⟩⟩
    · rw [upd_ne (fun z => by rw [← z, he] at ha; cases ha)]
      exact he
    · obtain ⟨e1, e2, e3⟩ := ui_end he ha hd ne
      exact q dx a _ ne e1 e2 e3
theorem scU4 : FnScope ["self"] ["self"] (defScope sU4) := ⟨rfl, rfl, rfl, by decide +kernel, rfl, by decide +kernel, by decide +kernel⟩
theorem ok_U4 {f fUI C fI : Addr} {fd fdU : FuncData} (F : Fun K "__init__" "NoResult.__init__" sU4 f fd) (uc : UCls K U C fI) (cU : ClsFn K U "__init__" fUI) (mU : mg "Refusal" = some (.ref U)) (GU : FnOk P w K mg base CX0 1 fUI fdU ["self", "answer"] (spUI K U)) (bU : Binds K fdU ["self", "answer"] []) :
    FnOk P w K mg base CX0 2 f fd ["self"] (spSI C 0 aNR) := by
  refine F.ok scU4 (fun vs H Q E h => ?_) (fun cdv A outer s H vs Q E hr h => ?_)
  · obtain ⟨e, rest, rfl, hn, _⟩ := h
    rw [List.length_cons, hn]
    rfl
  · obtain ⟨e, rest, rfl, hn, he, q⟩ := h
    obtain rfl : rest = [] := List.length_eq_zero_iff.mp hn
    refine ⟨_, pss_one (ps_expr (pe_clsm rfl mU cU GU hr bU .nil pass0 (pa_cons (pv 0) (pa_cons (pe_lst (pa_cons (pe_un un_neg pe_int) pa_nil)) pa_nil)))), ?_⟩
    refine ⟨_, rfl, _, rfl, (by show 1 ≤ sizeLine; decide), fun a ha => ⟨e, C, fI, .ref a, rfl, uc, ?_, fun dx hd ne => ?_⟩⟩
    · rw [upd_ne (fun z => by rw [← z, he] at ha; cases ha)]
      exact he
    · obtain ⟨e1, e2, e3⟩ := ui_end he ha hd ne
      exact q dx a _ ne e1 e2 e3
theorem scU9 : FnScope ["self"] ["self"] (defScope sU9) := ⟨rfl, rfl, rfl, by decide +kernel, rfl, by decide +kernel, by decide +kernel⟩
theorem ok_U9 {f fUI C fI : Addr} {fd fdU : FuncData} (F : Fun K "__init__" "OutOfRange.__init__" sU9 f fd) (uc : UCls K U C fI) (cU : ClsFn K U "__init__" fUI) (mU : mg "Refusal" = some (.ref U)) (GU : FnOk P w K mg base CX0 1 fUI fdU ["self", "answer"] (spUI K U)) (bU : Binds K fdU ["self", "answer"] []) :
    FnOk P w K mg base CX0 2 f fd ["self"] (spSI C 0 aNV) := by
  refine F.ok scU9 (fun vs H Q E h => ?_) (fun cdv A outer s H vs Q E hr h => ?_)
  · obtain ⟨e, rest, rfl, hn, _⟩ := h
    rw [List.length_cons, hn]
    rfl
  · obtain ⟨e, rest, rfl, hn, he, q⟩ := h
    obtain rfl : rest = [] := List.length_eq_zero_iff.mp hn
    refine ⟨_, pss_one (ps_expr (pe_clsm rfl mU cU GU hr bU .nil pass0 (pa_cons (pv 0) (pa_cons (pe_lst (pa_cons (pe_un un_neg pe_int) pa_nil)) pa_nil)))), ?_⟩
    refine ⟨_, rfl, _, rfl, (by show 1 ≤ sizeLine; decide), fun a ha => ⟨e, C, fI, .ref a, rfl, uc, ?_, fun dx hd ne => ?_⟩⟩
    · rw [upd_ne (fun z => by rw [← z, he] at ha; cases ha)]
      exact he
    · obtain ⟨e1, e2, e3⟩ := ui_end he ha hd ne
      exact q dx a _ ne e1 e2 e3
end
end L2.J

set_option Elab.async false
set_option linter.all false
set_option maxRecDepth 100000
set_option maxHeartbeats 2000000
namespace L2.J
open PySem PySem.Spec PyProof.Rows L2.XC
/-! ### a number's bytes -/
def spAR : Sp := fun vs H Q _ => ∃ n : Nat, vs = [.int (n : Int)] ∧ Sw.amountLength n ≤ 100000 ∧ ∀ (x : Addr) (H' : Hp), Same H H' → H x = none → H' x = some (.lst ((Sw.le (Sw.amountLength n) n).map bv)) → Q (.ref x) H'
def spNR : Sp := fun vs H Q _ => ∃ z : Int, vs = [.int z] ∧ Sw.amountLength z.natAbs ≤ 100000 ∧ ∀ (x : Addr) (H' : Hp), Same H H' → H x = none → H' x = some (.lst ((2 :: Sw.numberBytes z).map bv)) → Q (.ref x) H'
section
variable {P : Program} {w : World} {K : PySem.W.Frag} {mg : Str → Option Value} {base : Heap}
theorem scAR : FnScope ["amount", "row", "left"] ["amount"] (defScope sAR) := ⟨rfl, rfl, rfl, by decide +kernel, rfl, by decide +kernel, by decide +kernel⟩
theorem ok_AR {f : Addr} {fd : FuncData} (F : Fun K "amount_row" "amount_row" sAR f fd) : FnOk P w K mg base CX0 1 f fd ["amount"] spAR := by
  refine F.ok scAR (fun vs H Q E h => ?_) (fun cdv A outer s H vs Q E hr h => ?_)
  · obtain ⟨n, rfl, _⟩ := h
    rfl
  · obtain ⟨n, rfl, hn, q⟩ := h
    refine ⟨_, pss_cons (ps_set (i := 1) scAR.nd rfl (Or.inl rfl) (pe_lst pa_nil))
      (pss_cons (ps_set (i := 2) scAR.nd rfl (Or.inl rfl) (pv 0))
      (pss_cons (ps_while PassesOwn.never (pt_cmpR op_gt (pv 2) pe_int (nomark _))
        (pss_cons (ps_expr (pe_bm PySem.F.plainAttrs_list PySem.F.slot_list_append PySem.F.type_list_append mt_append (pv 1) (pa_cons (pe_op op_mod (pv 2) pe_int) pa_nil)))
        (pss_one (ps_set (i := 2) scAR.nd rfl (Or.inl rfl) (pe_op op_fdiv (pv 2) pe_int)))))
      (pss_one (ps_ret (pv 1))))), ?_⟩
    refine ⟨(by show 0 ≤ sizeLine; decide), fun x hx => ?_⟩
    refine ⟨_, rfl, fun m σ G => ∃ (acc : List UInt8) (left : Nat), σ = [some (.int (n : Int)), some (.ref x), some (.int (left : Int))] ∧ Same H G ∧ G x = some (.lst (acc.map bv)) ∧ acc ++ Sw.le (Sw.amountLength left) left = Sw.le (Sw.amountLength n) n ∧ m = left, ⟨n, [], n, rfl, fun b o e => (upd_ne (ne_of_none e hx)).trans e, upd_same, rfl, rfl⟩, ?_⟩
    rintro m σ G ⟨acc, left, rfl, k, hG, hv, hm⟩
    have hal : acc.length + Sw.amountLength left = Sw.amountLength n := by
      have := congrArg List.length hv
      rw [List.length_append, Pm.le_len, Pm.le_len] at this
      exact this
    have hbd : acc.length < sizeLine := by rw [sizeLine_eq]; omega
    refine ⟨_, rfl, _, _, rfl, rfl, _, rfl, ?_⟩
    by_cases c : left = 0
    · rw [decide_eq_false (show ¬ ((0 : Int) < ((left : Nat) : Int)) by omega)]
      refine iteF ⟨_, rfl, q x G k hx ?_⟩
      rw [c, Pm.amount_zero] at hv
      rw [hG, ← hv]
      show some (HO.lst (acc.map bv)) = some (HO.lst ((acc ++ []).map bv))
      rw [List.append_nil]
    · rw [decide_eq_true (show ((0 : Int) < ((left : Nat) : Int)) by omega)]
      refine iteT ⟨_, fun σ' G' h => h, ?_⟩
      refine ⟨_, rfl, .inl ⟨rfl, _, SqL.of hG⟩, _, rfl, _, _, rfl, rfl, (by show (0 : Int) < 256; decide), x, _, _, rfl, rfl, hG, by rw [List.length_map]; exact hbd, ?_⟩
      refine ⟨_, rfl, _, _, rfl, rfl, ⟨by decide, by decide⟩, left / 256, by omega, acc ++ [UInt8.ofNat (left % 256)], left / 256, ?_, fun b o e => (upd_ne (ne_of_none e hx)).trans (k b o e), ?_, ?_, rfl⟩
      · show [some (V.int (n : Int)), some (V.ref x), some (V.int (((left : Nat) : Int) / 256))] = _
        rw [show (((left : Nat) : Int) / 256) = ((left / 256 : Nat) : Int) by omega]
      · rw [upd_same, List.map_append]
        show some (HO.lst (acc.map bv ++ [V.int (((left : Nat) : Int) % 256)])) = some (HO.lst (acc.map bv ++ [bv (UInt8.ofNat (left % 256))]))
        rw [bv_of (by omega), show (((left : Nat) : Int) % 256) = ((left % 256 : Nat) : Int) by omega]
      · rw [List.append_assoc]
        show acc ++ (UInt8.ofNat (left % 256) :: Sw.le (Sw.amountLength (left / 256)) (left / 256)) = _
        rw [← Pm.amountRow_pos c, hv]
theorem scNR : FnScope ["number", "amount", "below_0"] ["number"] (defScope sNR) := ⟨rfl, rfl, rfl, by decide +kernel, rfl, by decide +kernel, by decide +kernel⟩
theorem ok_NR {f fAR fVR : Addr} {fd fdA fdV : FuncData} (F : Fun K "number_row" "number_row" sNR f fd) (k2 : GI mg "NUMBER" 2) (len : mg "len" = none) (abs : mg "abs" = none)
    (GA : FnOk P w K mg base CX0 1 fAR fdA ["amount"] spAR) (bA : Binds K fdA ["amount"] []) (kA : PySem.W.keepIn K (.ref fAR) = true) (mA : mg "amount_row" = some (.ref fAR))
    (GV : FnOk P w K mg base CX0 1 fVR fdV ["amount"] spVR) (bV : Binds K fdV ["amount"] []) (kV : PySem.W.keepIn K (.ref fVR) = true) (mV : mg "vary_row" = some (.ref fVR)) :
    FnOk P w K mg base CX0 2 f fd ["number"] spNR := by
  refine F.ok scNR (fun vs H Q E h => ?_) (fun cdv A outer s H vs Q E hr h => ?_)
  · obtain ⟨z, rfl, _⟩ := h
    rfl
  · obtain ⟨z, rfl, hz, q⟩ := h
    refine ⟨_, pss_cons (ps_set (i := 1) scNR.nd rfl (Or.inl rfl) (pe_call GA hr rfl mA kA bA .nil pass0 (pa_cons (pe_callB call_abs rfl abs PyProof.Rows.boot_abs (pa_cons (pv 0) pa_nil)) pa_nil)))
      (pss_cons (ps_set (i := 2) scNR.nd rfl (Or.inl rfl) (pe_ifExp (pt_cmpR op_lt (pv 0) pe_int (nomark _)) pe_int pe_int))
      (pss_one (ps_ret (pe_op op_catL (pe_op op_catL (pe_lst (pa_cons (pgi k2 rfl) pa_nil)) (pe_call GV hr rfl mV kV bV .nil pass0 (pa_cons (pe_op op_add (pe_op op_mul pe_int (pe_callB call_len_seq (by rfl) len PySem.boot_len (pa_cons (pv 1) pa_nil))) (pv 2)) pa_nil))) (pv 1))))), ?_⟩
    have ha : (if z < 0 then -z else z) = ((z.natAbs : Nat) : Int) := by
      by_cases c : z < 0
      · rw [if_pos c]; omega
      · rw [if_neg c]; omega
    refine ⟨_, rfl, z, rfl, ?_⟩
    rw [ha]
    refine ⟨z.natAbs, rfl, hz, fun x H1 k1 hx h1 => ?_⟩
    generalize hL : Sw.amountLength z.natAbs = L at hz h1
    have hlen : (Sw.le L z.natAbs).length = L := Pm.le_len _ _
    refine ⟨_, rfl, _, _, rfl, rfl, _, rfl, ?_⟩
    by_cases c : z < 0
    case' pos =>
      have ez : (2 * L + if z < 0 then 1 else 0) = 2 * L + 1 := by rw [if_pos c]
      rw [decide_eq_true c]
      refine iteT ?_
    case' neg =>
      have ez : (2 * L + if z < 0 then 1 else 0) = 2 * L + 0 := by rw [if_neg c]
      rw [decide_eq_false c]
      refine iteF ?_
    all_goals (
      refine ⟨(by show 1 ≤ sizeLine; decide), fun y hy => ?_⟩
      have hx1 : upd H1 y (.lst [V.int 2]) x = some (.lst ((Sw.le L z.natAbs).map bv)) := (upd_ne (ne_of_none h1 hy)).trans h1
      have ky : Same H1 (upd H1 y (.lst [V.int 2])) := fun b o e => (upd_ne (ne_of_none e hy)).trans e
      refine ⟨_, rfl, x, _, rfl, .inl (SqL.of hx1), _, _, rfl, rfl, .inl ⟨by decide, by decide⟩, _, rfl, _, _, rfl, rfl, (2 * L + if z < 0 then 1 else 0), congrArg (fun t => [V.int t]) (by rw [ez, List.length_map, hlen]; omega), ?_, fun x2 H2 k2 hx2 h2 => ?_⟩
      · rw [ez]
        omega
      · have l5 := vary_len5 (n := 2 * L + if z < 0 then 1 else 0) (by rw [ez]; omega)
        refine ⟨y, x2, _, _, rfl, rfl, SqL.of (k2 _ _ upd_same), SqL.of h2, ?_, fun p hp => ?_⟩
        · rw [List.length_map, sizeLine_eq]
          show 1 + _ ≤ _
          omega
        · have hx3 : upd H2 p (.lst ([V.int 2] ++ (Sw.vary (2 * L + if z < 0 then 1 else 0)).map bv)) x = some (.lst ((Sw.le L z.natAbs).map bv)) := (upd_ne (ne_of_none (k2 _ _ hx1) hp)).trans (k2 _ _ hx1)
          refine ⟨_, rfl, p, x, _, _, rfl, rfl, SqL.of upd_same, SqL.of hx3, ?_, fun p2 hp2 => ?_⟩
          · rw [List.length_append, List.length_map, List.length_map, sizeLine_eq, hlen]
            show 1 + _ + _ ≤ _
            omega
          · have kk : Same H1 (upd H2 p (.lst ([V.int 2] ++ (Sw.vary (2 * L + if z < 0 then 1 else 0)).map bv))) := fun b o e => (upd_ne (ne_of_none (k2 _ _ (ky b o e)) hp)).trans (k2 _ _ (ky b o e))
            refine q p2 _ (fun b o e => (upd_ne (ne_of_none (kk _ _ (k1 b o e)) hp2)).trans (kk _ _ (k1 b o e))) ((k1.trans kk).free hp2) ?_
            rw [upd_same]
            unfold Sw.numberBytes
            rw [hL, List.map_cons, List.map_append]
            rfl)
end
end L2.J

set_option Elab.async false
set_option linter.all false
set_option maxRecDepth 100000
set_option maxHeartbeats 2000000
namespace L2.J
open PySem PySem.Spec PyProof.Rows L2.XC
/-! ### bits -/
theorem bits_le {z : Int} {k : Nat} : Builtin.Int.intBits z ≤ k ↔ z.natAbs < 2 ^ k := by
  unfold Builtin.Int.intBits
  by_cases h : z = 0
  · subst h
    rw [if_pos (by rfl)]
    exact ⟨fun _ => Nat.two_pow_pos k, fun _ => Nat.zero_le k⟩
  · have h0 : z.natAbs ≠ 0 := by omega
    rw [if_neg (by simpa using h), ← Nat.log2_lt h0]
    exact ⟨fun h => h, fun h => h⟩
theorem bits_pos {z : Int} (h : z ≠ 0) : Builtin.Int.intBits z = z.natAbs.log2 + 1 := by
  unfold Builtin.Int.intBits
  rw [if_neg (by simpa using h)]
theorem lim_eq : (256 : Nat) ^ Sw.NUMBER = 2 ^ (8 * Sw.NUMBER) := by
  rw [show (256 : Nat) = 2 ^ 8 by decide, ← Nat.pow_mul]
def inR (z : Int) : Prop := Builtin.Int.intBits z ≤ 32768
instance (z : Int) : Decidable (inR z) := inferInstanceAs (Decidable (Builtin.Int.intBits z ≤ 32768))
theorem inR_iff {z : Int} : inR z ↔ z.natAbs < 256 ^ Sw.NUMBER := by
  rw [lim_eq]
  exact bits_le (k := 8 * Sw.NUMBER)
theorem inR_mul {a b : Int} (ha : inR a) (hb : inR b) : PySem.IntMulOk a b := by
  unfold inR at ha hb
  exact .of_bits (Nat.le_trans ha (by decide)) (Nat.le_trans hb (by decide))
theorem bits_pow (a : Int) (i : Nat) : Builtin.Int.intBits (a ^ i) ≤ Builtin.Int.intBits a * i + 1 := by
  have h := bits_le.mp (Nat.le_refl (Builtin.Int.intBits a))
  rw [bits_le, Int.natAbs_pow, Nat.pow_succ]
  have h1 : a.natAbs ^ i ≤ (2 ^ Builtin.Int.intBits a) ^ i := Nat.pow_le_pow_left (Nat.le_of_lt h) i
  rw [← Nat.pow_mul] at h1
  have h2 := Nat.two_pow_pos (Builtin.Int.intBits a * i)
  omega
/-- how often it's multiplied -/
def turnsOf (a : Int) (b : Nat) : Nat := if 1 < a.natAbs then b else if 2 - b % 2 < b then 2 - b % 2 else b
def far (a : Int) (b : Nat) : Prop := 1 < a.natAbs ∧ 32768 ≤ (Builtin.Int.intBits a - 1) * b
instance (a : Int) (b : Nat) : Decidable (far a b) := inferInstanceAs (Decidable (1 < a.natAbs ∧ 32768 ≤ (Builtin.Int.intBits a - 1) * b))
theorem near_bits {a : Int} {b : Nat} (h : ¬ far a b) {i : Nat} (hi : i ≤ turnsOf a b) (ha : inR a) : Builtin.Int.intBits a * i ≤ 70000 := by
  unfold turnsOf at hi
  by_cases c : 1 < a.natAbs
  · rw [if_pos c] at hi
    have h : ¬ 32768 ≤ (Builtin.Int.intBits a - 1) * b := fun z => h ⟨c, z⟩
    have hb : Builtin.Int.intBits a = a.natAbs.log2 + 1 := bits_pos (by omega)
    have hl : 1 ≤ a.natAbs.log2 := by
      rcases Nat.lt_or_ge a.natAbs.log2 1 with z | z
      · rw [Nat.log2_lt (by omega)] at z
        omega
      · exact z
    rw [hb] at h ⊢
    rw [Nat.add_sub_cancel] at h
    have h1 : a.natAbs.log2 * i ≤ a.natAbs.log2 * b := Nat.mul_le_mul_left _ hi
    have h2 : 1 * b ≤ a.natAbs.log2 * b := Nat.mul_le_mul_right b hl
    rw [Nat.add_mul, Nat.one_mul]
    omega
  · rw [if_neg c] at hi
    have hb : Builtin.Int.intBits a ≤ 1 := bits_le.mpr (by omega)
    have h1 : Builtin.Int.intBits a * i ≤ 1 * i := Nat.mul_le_mul_right i hb
    have hi2 : i ≤ 2 := by
      revert hi
      split <;> omega
    omega
theorem near_turns {a : Int} {b : Nat} (h : ¬ far a b) : turnsOf a b < 40000 := by
  unfold turnsOf
  by_cases c : 1 < a.natAbs
  · rw [if_pos c]
    have h : ¬ 32768 ≤ (Builtin.Int.intBits a - 1) * b := fun z => h ⟨c, z⟩
    have hb : Builtin.Int.intBits a = a.natAbs.log2 + 1 := bits_pos (by omega)
    have hl : 1 ≤ a.natAbs.log2 := by
      rcases Nat.lt_or_ge a.natAbs.log2 1 with z | z
      · rw [Nat.log2_lt (by omega)] at z
        omega
      · exact z
    rw [hb, Nat.add_sub_cancel] at h
    have h2 : 1 * b ≤ a.natAbs.log2 * b := Nat.mul_le_mul_right b hl
    omega
  · rw [if_neg c]
    split <;> omega
/-- a to the power of b; none: far out of range -/
def pw (a : Int) (b : Nat) : Option Int := if far a b then none else some (a ^ turnsOf a b)
def ranged (o : Option Int) : Option Int := match o with
  | none => none
  | some z => if inR z then some z else none
theorem pow_even (b : Nat) : (-1 : Int) ^ b = if b % 2 = 0 then 1 else -1 := by
  induction b with
  | zero => rfl
  | succ b ih =>
    rw [Int.pow_succ, ih]
    by_cases c : b % 2 = 0
    · rw [if_pos c, if_neg (by omega)]
      rfl
    · rw [if_neg c, if_pos (by omega)]
      rfl
theorem pw_is (a : Int) (b : Nat) : ranged (pw a b) = ranged (Sw.power a b) := by
  unfold pw Sw.power
  by_cases c : 1 < a.natAbs
  · rw [if_neg (show ¬ a = 0 by omega), if_neg (show ¬ a = 1 by omega), if_neg (show ¬ a = -1 by omega)]
    have hb : Builtin.Int.intBits a = a.natAbs.log2 + 1 := bits_pos (by omega)
    have ht : turnsOf a b = b := by unfold turnsOf; rw [if_pos c]
    by_cases d : far a b
    · rw [if_pos d]
      have d2 : 32768 ≤ a.natAbs.log2 * b := by
        have := d.2
        rw [hb, Nat.add_sub_cancel] at this
        exact this
      by_cases e : 32768 < a.natAbs.log2 * b
      · rw [if_pos e]
      · rw [if_neg e]
        unfold ranged
        dsimp only
        rw [if_neg]
        intro z
        have z := bits_le.mp (show Builtin.Int.intBits (a ^ b) ≤ 32768 from z)
        have h1 : 2 ^ a.natAbs.log2 ≤ a.natAbs := Nat.log2_self_le (by omega)
        have h2 : (2 ^ a.natAbs.log2) ^ b ≤ a.natAbs ^ b := Nat.pow_le_pow_left h1 b
        rw [← Nat.pow_mul, show a.natAbs.log2 * b = 32768 by omega] at h2
        rw [Int.natAbs_pow] at z
        exact absurd (Nat.lt_of_le_of_lt h2 z) (Nat.lt_irrefl _)
    · rw [if_neg d]
      have d2 : ¬ 32768 ≤ a.natAbs.log2 * b := fun z => d ⟨c, by rw [hb, Nat.add_sub_cancel]; exact z⟩
      rw [if_neg (by omega), ht]
  · have d : ¬ far a b := fun z => c z.1
    rw [if_neg d]
    have hc : a = 0 ∨ a = 1 ∨ a = -1 := by omega
    have ht : turnsOf a b = if 2 - b % 2 < b then 2 - b % 2 else b := by unfold turnsOf; rw [if_neg c]
    rw [ht]
    rcases hc with rfl | rfl | rfl
    · rw [if_pos rfl]
      by_cases h0 : b = 0
      · subst h0
        rfl
      · rw [if_neg h0, Int.zero_pow (by split <;> omega)]
    · rw [if_neg (show ¬ (1 : Int) = 0 by decide), if_pos (show (1 : Int) = 1 from rfl), Int.one_pow]
    · rw [if_neg (show ¬ (-1 : Int) = 0 by decide), if_neg (show ¬ (-1 : Int) = 1 by decide), if_pos (show (-1 : Int) = -1 from rfl), pow_even]
      have : ((if 2 - b % 2 < b then 2 - b % 2 else b) % 2 = 0) ↔ (b % 2 = 0) := by
        by_cases e : 2 - b % 2 < b
        · rw [if_pos e]; omega
        · rw [if_neg e]
      by_cases e : b % 2 = 0
      · rw [if_pos e, if_pos (this.mpr e)]
      · rw [if_neg e, if_neg (fun z => e (this.mp z))]
end L2.J

set_option Elab.async false
set_option linter.all false
set_option maxRecDepth 100000
set_option maxHeartbeats 2000000
namespace L2.J
open PySem PySem.Spec PyProof.Rows L2.XC
def numOf : Sw.Value → Option Int
  | .num z => some z
  | _ => none
def spIR : Sp := fun vs H Q _ => ∃ z : Int, vs = [.int z] ∧ Q (.bl (decide (inR z))) H
def spIO : Sp := fun vs H Q _ => ∃ z : Int, vs = [.int z] ∧ Q (.bl (decide (0 ≤ z ∧ z ≤ 9))) H
def lacks (op : Nat) (a b : Int) : Prop := ((op = 3 ∨ op = 4) ∧ b = 0) ∨ (op = 7 ∧ b < 0) ∨ (op = 8 ∧ a < 0)
instance (op : Nat) (a b : Int) : Decidable (lacks op a b) := inferInstanceAs (Decidable (((op = 3 ∨ op = 4) ∧ b = 0) ∨ (op = 7 ∧ b < 0) ∨ (op = 8 ∧ a < 0)))
def spLR : Sp := fun vs H Q _ => ∃ (op : Nat) (a b : Int), vs = [.int (op : Int), .int a, .int b] ∧ ∀ H' : Hp, Same H H' → Q (.bl (decide (lacks op a b))) H'
def spND (K : PySem.W.Frag) (CP C5 : Addr) : Sp := fun vs H Q E => ∃ (a m : Addr) (bs : List UInt8) (v : Sw.Value) (p np : Nat) (n : List UInt8), vs = [.ref a, .ref m] ∧ SqL K H a (bs.map bv) ∧ Nd CP H bs m v p np n ∧ (match numOf v with
  | some z => ∀ H' : Hp, Same H H' → Q (.int z) H'
  | none => ErrU E C5 [.int (-5)])
def spPO (C9 : Addr) : Sp := fun vs H Q E => ∃ (a : Int) (b : Nat), vs = [.int a, .int (b : Int)] ∧ inR a ∧ (match pw a b with
  | some z => Q (.int z) H
  | none => ErrU E C9 [.int (-9)])
section
variable {P : Program} {w : World} {K : PySem.W.Frag} {mg : Str → Option Value} {base : Heap} {CF CR CP fFI U C4 C5 C9 f4 f5 f9 : Addr}
theorem scIR : FnScope ["number"] ["number"] (defScope sIR) := ⟨rfl, rfl, rfl, by decide +kernel, rfl, by decide +kernel, by decide +kernel⟩
theorem ok_IR {f : Addr} {fd : FuncData} (F : Fun K "is_in_range" "is_in_range" sIR f fd) (ln : GI mg "LONGEST_NUMBER" 4096) : FnOk P w K mg base CX0 1 f fd ["number"] spIR := by
  refine F.ok scIR (fun vs H Q E h => ?_) (fun cdv A outer s H vs Q E hr h => ?_)
  · obtain ⟨z, rfl, _⟩ := h
    rfl
  · obtain ⟨z, rfl, q⟩ := h
    refine ⟨_, pss_one (ps_ret (pe_cmpR op_le (pe_bm0 PySem.F.plainAttrs_int PySem.F.slot_int_bit_length PySem.F.type_int_bit_length mt_bits (pv 0)) (pe_op op_mul pe_int (pgi ln rfl)) (nomark _))), ?_⟩
    refine ⟨_, rfl, rfl, z, rfl, rfl, _, _, rfl, rfl, .inl ⟨by decide, by decide⟩, _, _, rfl, rfl, ?_⟩
    have e : decide (((Builtin.Int.intBits z : Nat) : Int) ≤ 8 * 4096) = decide (inR z) := by
      by_cases c : inR z
      · have c' : Builtin.Int.intBits z ≤ 32768 := c
        rw [decide_eq_true c, decide_eq_true (by omega)]
      · have c' : ¬ Builtin.Int.intBits z ≤ 32768 := c
        rw [decide_eq_false c, decide_eq_false (by omega)]
    show Q (.bl (decide (((Builtin.Int.intBits z : Nat) : Int) ≤ 8 * 4096))) H
    rw [e]
    exact q
theorem scIO : FnScope ["op"] ["op"] (defScope sIO) := ⟨rfl, rfl, rfl, by decide +kernel, rfl, by decide +kernel, by decide +kernel⟩
theorem ok_IO {f : Addr} {fd : FuncData} (F : Fun K "is_operation" "is_operation" sIO f fd) (k0 : GI mg "SUM" 0) (k9 : GI mg "DIVISOR" 9) : FnOk P w K mg base CX0 1 f fd ["op"] spIO := by
  refine F.ok scIO (fun vs H Q E h => ?_) (fun cdv A outer s H vs Q E hr h => ?_)
  · obtain ⟨z, rfl, _⟩ := h
    rfl
  · obtain ⟨z, rfl, q⟩ := h
    refine ⟨_, pss_one (ps_ret (pe_chain op_le op_le (pgi k0 rfl) (pv 0) (pgi k9 rfl))), ?_⟩
    refine ⟨_, rfl, _, _, rfl, rfl, _, rfl, ?_⟩
    by_cases c : (0 : Int) ≤ z
    · rw [decide_eq_true c]
      refine iteT ⟨_, _, rfl, rfl, ?_⟩
      show Q (.bl (decide (z ≤ 9))) H
      by_cases d : z ≤ 9
      · rw [decide_eq_true d]
        rw [decide_eq_true ⟨c, d⟩] at q
        exact q
      · rw [decide_eq_false d]
        rw [decide_eq_false (fun x => d x.2)] at q
        exact q
    · rw [decide_eq_false c]
      rw [decide_eq_false (fun x => c x.1)] at q
      exact iteF q
theorem scLR : FnScope ["op", "a", "b"] ["op", "a", "b"] (defScope sLR) := ⟨rfl, rfl, rfl, by decide +kernel, rfl, by decide +kernel, by decide +kernel⟩
theorem dcast {x y : Nat} : decide (V.int (x : Int) = V.int (y : Int)) = decide (x = y) := by
  rw [dint]
  by_cases h : x = y
  · rw [decide_eq_true h, decide_eq_true (by omega)]
  · rw [decide_eq_false h, decide_eq_false (by omega)]
theorem ok_LR {f : Addr} {fd : FuncData} (F : Fun K "lacks_result" "lacks_result" sLR f fd) (k3 : GI mg "QUOTIENT" 3) (k4 : GI mg "LEFT_OVER" 4) (k7 : GI mg "POWER" 7) (k8 : GI mg "ROOT" 8) : FnOk P w K mg base CX0 1 f fd ["op", "a", "b"] spLR := by
  refine F.ok scLR (fun vs H Q E h => ?_) (fun cdv A outer s H vs Q E hr h => ?_)
  · obtain ⟨op, a, b, rfl, _⟩ := h
    rfl
  · obtain ⟨op, a, b, rfl, q⟩ := h
    refine ⟨_, pss_cons (ps_if (pt_cmpR op_in_seq (pv 0) (pe_tup (pa_cons (pgi k3 rfl) (pa_cons (pgi k4 rfl) pa_nil))) (by with_unfolding_all rfl)) (pss_one (ps_ret (pe_cmpR op_eq (pv 2) pe_int (nomark _)))) pss_nil)
      (pss_cons (ps_if (pt_cmpR op_eq (pv 0) (pgi k7 rfl) (nomark _)) (pss_one (ps_ret (pe_cmpR op_lt (pv 2) pe_int (nomark _)))) pss_nil)
      (pss_one (ps_ret (pe_and (pe_cmpR op_eq (pv 0) (pgi k8 rfl) (nomark _)) (pe_one (pe_cmpR op_lt (pv 1) pe_int (nomark _))))))), ?_⟩
    refine in_test (x1 := 3) (x2 := 4) (c := op) rfl fun t ht => ?_
    have q : Q (.bl (decide (lacks op a b))) (upd H t (.tup [.int ((3 : Nat) : Int), .int ((4 : Nat) : Int)])) := q _ (fun b o e => (upd_ne (ne_of_none e ht)).trans e)
    by_cases c : op = 3 ∨ op = 4
    · rw [decide_eq_true c]
      refine iteT ⟨_, rfl, rfl, ?_⟩
      show Q (.bl (decide (V.int b = V.int 0))) _
      rw [dint]
      by_cases d : b = 0
      · rw [decide_eq_true d]
        rw [decide_eq_true (.inl ⟨c, d⟩)] at q
        exact q
      · rw [decide_eq_false d]
        rw [decide_eq_false (show ¬ lacks op a b from fun x => by rcases x with ⟨_, x⟩ | ⟨x, _⟩ | ⟨x, _⟩ <;> omega)] at q
        exact q
    · rw [decide_eq_false c]
      refine iteF ⟨_, rfl, rfl, _, rfl, ?_⟩
      rw [show (7 : Int) = ((7 : Nat) : Int) from rfl, dcast]
      by_cases c7 : op = 7
      · rw [decide_eq_true c7]
        refine iteT ⟨_, rfl, _, _, rfl, rfl, ?_⟩
        show Q (.bl (decide (b < 0))) _
        by_cases d : b < 0
        · rw [decide_eq_true d]
          rw [decide_eq_true (.inr (.inl ⟨c7, d⟩))] at q
          exact q
        · rw [decide_eq_false d]
          rw [decide_eq_false (show ¬ lacks op a b from fun x => by rcases x with ⟨x, _⟩ | ⟨_, x⟩ | ⟨x, _⟩ <;> omega)] at q
          exact q
      · rw [decide_eq_false c7]
        refine iteF ⟨_, rfl, rfl, ?_⟩
        rw [show (8 : Int) = ((8 : Nat) : Int) from rfl, dcast]
        refine ⟨_, rfl, ?_⟩
        by_cases c8 : op = 8
        · rw [decide_eq_true c8]
          refine iteT ⟨_, rfl, _, _, rfl, rfl, ?_⟩
          show Q (.bl (decide (a < 0))) _
          by_cases d : a < 0
          · rw [decide_eq_true d]
            rw [decide_eq_true (.inr (.inr ⟨c8, d⟩))] at q
            exact q
          · rw [decide_eq_false d]
            rw [decide_eq_false (show ¬ lacks op a b from fun x => by rcases x with ⟨x, _⟩ | ⟨x, _⟩ | ⟨_, x⟩ <;> omega)] at q
            exact q
        · rw [decide_eq_false c8]
          rw [decide_eq_false (show ¬ lacks op a b from fun x => by rcases x with ⟨x, _⟩ | ⟨x, _⟩ | ⟨x, _⟩ <;> omega)] at q
          exact iteF q
theorem kind2 {v : Sw.Value} {p np nl : Nat} (c : Nat) : decide (((Pm.pdOf v p np nl).kind : Int) = (c : Int)) = decide (v.kind = c) := by
  show decide ((v.kind : Int) = (c : Int)) = _
  by_cases z : v.kind = c
  · rw [decide_eq_true z, decide_eq_true (by omega)]
  · rw [decide_eq_false z, decide_eq_false (by omega)]
theorem scND : FnScope ["row", "whole"] ["row", "whole"] (defScope sND) := ⟨rfl, rfl, rfl, by decide +kernel, rfl, by decide +kernel, by decide +kernel⟩
theorem ok_ND {f fNO : Addr} {fd fdN fd5 : FuncData} (F : Fun K "need_number" "need_number" sND f fd) (TP : TxP K mg CP) (k2 : GI mg "NUMBER" 2) (uc : UCls K U C5 f5) (m5 : mg "NoNumber" = some (.ref C5))
    (G5 : FnOk P w K mg base CX0 2 f5 fd5 ["self"] (spSI C5 0 aNP)) (b5 : Binds K fd5 ["self"] [])
    (GN : FnOk P w K mg base CX0 2 fNO fdN ["row", "part"] (spNO K CP)) (bN : Binds K fdN ["row", "part"] []) (kN : PySem.W.keepIn K (.ref fNO) = true) (mN : mg "number_of" = some (.ref fNO)) :
    FnOk P w K mg base (CXF P w) 4 f fd ["row", "whole"] (spND K CP C5) := by
  refine okX F scND (fun vs H Q E h => ?_) (fun cdv A outer s H vs Q E hr h => ?_)
  · obtain ⟨a, m, bs, u, p, np, n, rfl, _⟩ := h
    rfl
  · obtain ⟨a, m, bs, u, p, np, n, rfl, hs, nd, q⟩ := h
    have hr2 : Room 2 _ := hr.mono (by decide)
    refine ⟨_, pss_cons (ps_if (pt_cmpR op_ne (pe_fld (pv 1) rfl) (pgi k2 rfl) (nomark _)) (pss_one (ps_raiseU0 uc G5 b5 rfl hr flies_cx rfl rfl m5)) pss_nil)
      (pss_one (ps_ret (pe_call GN hr2 rfl mN kN bN .nil pass0 (pa_cons (pv 0) (pa_cons (pv 1) pa_nil))))), ?_⟩
    obtain ⟨nn, l, as, dx, hn, h1, _⟩ := nd.pt
    refine ⟨_, rfl, m, CP, dx, _, _, rfl, h1, TP.cP, TP.nKi, rfl, rfl, _, rfl, ?_⟩
    rw [dint, show (2 : Int) = ((2 : Nat) : Int) from rfl, kind2]
    by_cases c2 : u.kind = 2
    · rw [decide_eq_true c2]
      cases u with
      | num z => exact iteF ⟨_, rfl, _, rfl, a, m, bs, z, p, np, n, rfl, hs, nd, q⟩
      | _ => simp [Sw.Value.kind] at c2
    · rw [decide_eq_false c2]
      have q : ErrU E C5 [.int (-5)] := by
        cases u with
        | num z => exact absurd rfl c2
        | _ => exact q
      exact iteT ⟨rfl, q⟩
theorem ifB {c : TT} {t1 t2 u : TS} {D : Ends} {q : St} {H : Hp} (b : Bool) (h : ∀ Q : Bool → Hp → Prop, Q b H → c q H Q) (k : if b = true then t1 { D with nx := u D } q H else t2 { D with nx := u D } q H) : tSeq (tIfS c t1 t2) u D q H := h (fun b H1 => if b = true then t1 { D with nx := u D } q H1 else t2 { D with nx := u D } q H1) k
theorem setB {te : TE} {i : Nat} {u : TS} {D : Ends} {q : St} {H : Hp} (v : V) (h : ∀ Q : VK, Q v H → te q H Q) (k : u D (q.set i (some v)) H) : tSeq (tAsg te (gName i)) u D q H := h (fun x H1 => gName i x q H1 (u D)) k
theorem iabs (a : Int) : (if a < 0 then -a else a) = ((a.natAbs : Nat) : Int) := by
  by_cases c : a < 0
  · rw [if_pos c]; omega
  · rw [if_neg c]; omega
theorem scPO : FnScope ["a", "b", "turns", "made", "turn"] ["a", "b"] (defScope sPO) := ⟨rfl, rfl, rfl, by decide +kernel, rfl, by decide +kernel, by decide +kernel⟩
theorem ok_PO {f : Addr} {fd fd9 : FuncData} (F : Fun K "power_of" "power_of" sPO f fd) (ln : GI mg "LONGEST_NUMBER" 4096) (abs : mg "abs" = none) (mn : mg "min" = none) (rg : mg "range" = none) (uc : UCls K U C9 f9) (m9 : mg "OutOfRange" = some (.ref C9))
    (G9 : FnOk P w K mg base CX0 2 f9 fd9 ["self"] (spSI C9 0 aNV)) (b9 : Binds K fd9 ["self"] []) :
    FnOk P w K mg base (CXF P w) 4 f fd ["a", "b"] (spPO C9) := by
  refine okX F scPO (fun vs H Q E h => ?_) (fun cdv A outer s H vs Q E hr h => ?_)
  · obtain ⟨a, b, rfl, _⟩ := h
    rfl
  · obtain ⟨a, b, rfl, ha, q⟩ := h
    refine ⟨_, pss_cons (ps_if (PW.pt (pw_and (pt_cmpR op_gt (pe_callB call_abs rfl abs PyProof.Rows.boot_abs (pa_cons (pv 0) pa_nil)) pe_int (nomark _))
        (pw_and1 (pt_cmpR op_ge (pe_op op_mulB (pe_op op_sub (pe_bm0 PySem.F.plainAttrs_int PySem.F.slot_int_bit_length PySem.F.type_int_bit_length mt_bits (pv 0)) pe_int) (pv 1)) (pe_op op_mul pe_int (pgi ln rfl)) (nomark _)))))
        (pss_one (ps_raiseU0 uc G9 b9 rfl hr flies_cx rfl rfl m9)) pss_nil)
      (pss_cons (ps_set (i := 2) scPO.nd rfl (Or.inl rfl) (pe_ifExp (pt_cmpR op_gt (pe_callB call_abs rfl abs PyProof.Rows.boot_abs (pa_cons (pv 0) pa_nil)) pe_int (nomark _)) (pv 1)
        (pe_callB (call_min2 rfl) rfl mn boot_min (pa_cons (pv 1) (pa_cons (pe_op op_sub pe_int (pe_op op_mod (pv 1) pe_int)) pa_nil)))))
      (pss_cons (ps_set (i := 3) scPO.nd rfl (Or.inl rfl) pe_int)
      (pss_cons (ps_for PassesOwn.leaving rfl (pi_range1 rfl rg (pa_cons (pv 2) pa_nil)) (pg_name (i := 4) scPO.nd rfl (Or.inl rfl)) (pss_one (ps_aug (i := 3) scPO.nd rfl (Or.inl rfl) (pv 0) ip_mulB)))
      (pss_one (ps_ret (pv 3)))))), ?_⟩
    have far_test : ∀ Q : Bool → Hp → Prop, Q (decide (far a b)) H → (if decide ((1 : Int) < ((a.natAbs : Nat) : Int)) = true then Q (decide ((8 : Int) * 4096 ≤ (((Builtin.Int.intBits a : Nat) : Int) - 1) * ((b : Nat) : Int))) H else Q false H) := fun Q k => by
      by_cases c : 1 < a.natAbs
      · rw [decide_eq_true (show (1 : Int) < ((a.natAbs : Nat) : Int) by omega), if_pos rfl]
        have hb : Builtin.Int.intBits a = a.natAbs.log2 + 1 := bits_pos (by omega)
        have e : (((Builtin.Int.intBits a : Nat) : Int) - 1) * ((b : Nat) : Int) = (((Builtin.Int.intBits a - 1) * b : Nat) : Int) := by
          rw [hb, Int.natCast_mul, Nat.add_sub_cancel]
          congr 1
          omega
        rw [e]
        by_cases d : 32768 ≤ (Builtin.Int.intBits a - 1) * b
        · rw [decide_eq_true (show far a b from ⟨c, d⟩)] at k
          rw [decide_eq_true (by omega)]
          exact k
        · rw [decide_eq_false (show ¬ far a b from fun z => d z.2)] at k
          rw [decide_eq_false (by omega)]
          exact k
      · rw [decide_eq_false (show ¬ (1 : Int) < ((a.natAbs : Nat) : Int) by omega), if_neg Bool.false_ne_true]
        rw [decide_eq_false (show ¬ far a b from fun z => c z.1)] at k
        exact k
    refine ifB (decide (far a b)) (fun Q k => ?_) ?_
    · have k := far_test Q k
      refine ⟨_, rfl, a, rfl, _, _, rfl, rfl, _, rfl, ?_⟩
      rw [iabs]
      by_cases c : 1 < a.natAbs
      · rw [decide_eq_true (show (1 : Int) < ((a.natAbs : Nat) : Int) by omega)] at k ⊢
        rw [if_pos rfl] at k
        have hm : PySem.IntMulOk (((Builtin.Int.intBits a : Nat) : Int) - 1) (b : Int) := by
          have ha' : Builtin.Int.intBits a ≤ 32768 := ha
          exact .of_left (intBits_le_64 (by omega) (by omega))
        exact iteT ⟨_, rfl, rfl, a, rfl, rfl, _, _, rfl, rfl, _, rfl, _, _, rfl, rfl, hm, _, _, rfl, rfl, .inl ⟨by decide, by decide⟩, _, _, rfl, rfl, _, rfl, k⟩
      · rw [decide_eq_false (show ¬ (1 : Int) < ((a.natAbs : Nat) : Int) by omega)] at k ⊢
        rw [if_neg Bool.false_ne_true] at k
        exact iteF k
    unfold pw at q
    by_cases d : far a b
    · rw [if_pos d] at q
      rw [decide_eq_true d]
      exact iteT ⟨rfl, q⟩
    · rw [if_neg d] at q
      have q : Q (.int (a ^ turnsOf a b)) H := q
      rw [decide_eq_false d]
      refine iteF ?_
      unfold tNext
      dsimp only
      refine setB (.int ((turnsOf a b : Nat) : Int)) (fun Q k => ?_) ?_
      · refine ⟨_, rfl, a, rfl, _, _, rfl, rfl, _, rfl, ?_⟩
        rw [iabs]
        unfold turnsOf at k
        by_cases c : 1 < a.natAbs
        · rw [if_pos c] at k
          rw [decide_eq_true (show (1 : Int) < ((a.natAbs : Nat) : Int) by omega)]
          exact iteT ⟨_, rfl, k⟩
        · rw [if_neg c] at k
          rw [decide_eq_false (show ¬ (1 : Int) < ((a.natAbs : Nat) : Int) by omega)]
          refine iteF ⟨_, rfl, _, rfl, _, _, rfl, rfl, (by show (0 : Int) < 2; decide), _, _, rfl, rfl, _, _, rfl, ?_⟩
          have e : (if (2 : Int) - ((b : Nat) : Int) % 2 < ((b : Nat) : Int) then (2 : Int) - ((b : Nat) : Int) % 2 else ((b : Nat) : Int)) = (((if 2 - b % 2 < b then 2 - b % 2 else b) : Nat) : Int) := by
            by_cases c2 : 2 - b % 2 < b
            · rw [if_pos c2, if_pos (by omega)]; omega
            · rw [if_neg c2, if_neg (by omega)]
          rw [e]
          exact k
      have ht := near_turns d
      refine ⟨_, rfl, ((turnsOf a b : Nat) : Int), rfl, by omega, by omega, for_range (lo := 0) (n := turnsOf a b) (fun i σ G => G = H ∧ ∃ v4 : Option V, σ = [some (.int a), some (.int (b : Int)), some (.int ((turnsOf a b : Nat) : Int)), some (.int (a ^ i)), v4]) ⟨rfl, none, by rw [Int.pow_zero]; rfl⟩ ?_ ?_⟩
      · rintro i σ G hi ⟨rfl, v4, rfl⟩
        have hm : PySem.IntMulOk (a ^ i) a := by
          have h1 := bits_pow a i
          have h2 := near_bits d (Nat.le_of_lt hi) ha
          have ha' : Builtin.Int.intBits a ≤ 32768 := ha
          exact .of_bits (Nat.le_trans (show _ ≤ 70001 by omega) (by decide)) (Nat.le_trans ha' (by decide))
        refine ⟨_, rfl, _, rfl, _, _, rfl, rfl, hm, rfl, some (.int (0 + i)), ?_⟩
        rw [Int.pow_succ]
        rfl
      · rintro σ G ⟨rfl, v4, rfl⟩
        exact ⟨_, rfl, q⟩
end
end L2.J

set_option Elab.async false
set_option linter.all false
set_option maxRecDepth 100000
set_option maxHeartbeats 2000000
namespace L2.J
open PySem PySem.Spec PyProof.Rows L2.XC
def spRT : Sp := fun vs H Q _ => ∃ n : Nat, vs = [.int (n : Int)] ∧ inR (n : Int) ∧ Q (.int ((Sw.root n : Nat) : Int)) H
def spDV : Sp := fun vs H Q _ => ∃ a b : Int, vs = [.int a, .int b] ∧ Q (.int ((Int.gcd a b : Nat) : Int)) H
theorem fdivN (n r : Nat) : Int.fdiv (n : Int) (r : Int) = ((n / r : Nat) : Int) := by
  rw [Int.fdiv_eq_ediv_of_nonneg _ (by omega), Int.natCast_ediv]
theorem newton_cast (n r : Nat) : (((r : Nat) : Int) + Int.fdiv (n : Int) (r : Int)) / 2 = (((r + n / r) / 2 : Nat) : Int) := by
  rw [fdivN, ← Int.natCast_add, Int.natCast_ediv]
  rfl
theorem root_start {n : Nat} : Sw.root n ≤ 2 ^ ((Builtin.Int.intBits (n : Int) + 1) / 2) := by
  refine Pm.root_pow ?_
  have h := bits_le.mp (Nat.le_refl (Builtin.Int.intBits (n : Int)))
  rw [← Nat.pow_add]
  refine Nat.lt_of_lt_of_le h (Nat.pow_le_pow_right (by decide) ?_)
  omega
theorem root_pos {n : Nat} (h : n ≠ 0) : 1 ≤ Sw.root n := by
  obtain ⟨_, g⟩ := Pm.root_spec n
  rcases Nat.eq_zero_or_pos (Sw.root n) with z | z
  · rw [z] at g
    omega
  · exact z
theorem room_far {k : Nat} {A : Around} (r : Room k A) (h : 32 ≤ k) : A.depth + 100 < recursionLimit := by
  have := r.dp
  omega
section
variable {P : Program} {w : World} {K : PySem.W.Frag} {mg : Str → Option Value} {base : Heap} {CF CR CP fFI U C4 C5 C9 f4 f5 f9 : Addr}
theorem scRT : FnScope ["a", "root", "turn", "nearer"] ["a"] (defScope sRT) := ⟨rfl, rfl, rfl, by decide +kernel, rfl, by decide +kernel, by decide +kernel⟩
theorem ok_RT {f : Addr} {fd : FuncData} (F : Fun K "root_of" "root_of" sRT f fd) (ht : P.given.tree = none) (rg : mg "range" = none) : FnOk P w K mg base CX0 35 f fd ["a"] spRT := by
  refine F.ok scRT (fun vs H Q E h => ?_) (fun cdv A outer s H vs Q E hr h => ?_)
  · obtain ⟨n, rfl, _⟩ := h
    rfl
  · obtain ⟨n, rfl, hn, q⟩ := h
    have hd := room_far hr (by decide)
    refine ⟨_, pss_cons (ps_if (pt_cmpR op_eq (pv 0) pe_int (nomark _)) (pss_one (ps_ret pe_int)) pss_nil)
      (pss_cons (ps_set (i := 1) scRT.nd rfl (Or.inl rfl) pe_int)
      (pss_cons (ps_for PassesOwn.never rfl (pi_range1 rfl rg (pa_cons (pe_op op_fdiv (pe_op op_add (pe_bm0 PySem.F.plainAttrs_int PySem.F.slot_int_bit_length PySem.F.type_int_bit_length mt_bits (pv 0)) pe_int) pe_int) pa_nil)) (pg_name (i := 2) scRT.nd rfl (Or.inl rfl)) (pss_one (ps_aug (i := 1) scRT.nd rfl (Or.inl rfl) pe_int ip_mulB)))
      (pss_cons (ps_set (i := 3) scRT.nd rfl (Or.inl rfl) (pe_op op_fdiv (pe_op op_add (pv 1) (pe_op (op_fdivB ht rfl rfl rfl hd) (pv 0) (pv 1))) pe_int))
      (pss_cons (ps_while PassesOwn.never (pt_cmpR op_lt (pv 3) (pv 1) (nomark _))
        (pss_cons (ps_set (i := 1) scRT.nd rfl (Or.inl rfl) (pv 3))
        (pss_one (ps_set (i := 3) scRT.nd rfl (Or.inl rfl) (pe_op op_fdiv (pe_op op_add (pv 1) (pe_op (op_fdivB ht rfl rfl rfl hd) (pv 0) (pv 1))) pe_int)))))
      (pss_one (ps_ret (pv 1))))))), ?_⟩
    refine ⟨_, rfl, rfl, _, rfl, ?_⟩
    rw [show (0 : Int) = ((0 : Nat) : Int) from rfl, dcast]
    by_cases c : n = 0
    · rw [decide_eq_true c]
      subst c
      refine iteT ?_
      have e : Sw.root 0 = 0 := (Pm.root_uniq (n := 0) (r := 0) (by decide) (by decide)).symm
      rw [e] at q
      exact q
    · rw [decide_eq_false c]
      have hn' : Builtin.Int.intBits (n : Int) ≤ 32768 := hn
      generalize hk : (Builtin.Int.intBits (n : Int) + 1) / 2 = k
      have hk2 : (((Builtin.Int.intBits (n : Int) : Nat) : Int) + 1) / 2 = ((k : Nat) : Int) := by omega
      refine iteF ⟨_, rfl, rfl, _, rfl, rfl, _, _, rfl, rfl, _, _, rfl, rfl, ⟨by decide, by decide⟩, ?_⟩
      refine ⟨((k : Nat) : Int), congrArg (fun t => [V.int t]) hk2, by omega, by omega, for_range (lo := 0) (n := k) (fun i σ G => G = H ∧ ∃ v2 v3 : Option V, σ = [some (.int (n : Int)), some (.int (((2 ^ i : Nat) : Nat) : Int)), v2, v3]) ⟨rfl, none, none, rfl⟩ ?_ ?_⟩
      · rintro i σ G hi ⟨rfl, v2, v3, rfl⟩
        refine ⟨_, rfl, _, _, rfl, rfl, .of_right (intBits_le_64 (by decide) (by decide)), rfl, some (.int (0 + i)), v3, ?_⟩
        rw [Nat.pow_succ, Int.natCast_mul]
        rfl
      · rintro σ G ⟨rfl, v2, v3, rfl⟩
        have hr0 : 0 < 2 ^ k := Nat.two_pow_pos k
        have hrt : Sw.root n ≤ 2 ^ k := by rw [← hk]; exact root_start
        generalize 2 ^ k = r0 at hr0 hrt
        refine ⟨_, rfl, _, rfl, _, rfl, _, _, rfl, rfl, (show ((r0 : Nat) : Int) ≠ 0 by omega), _, _, rfl, rfl, _, _, rfl, rfl, ⟨by decide, by decide⟩, ?_⟩
        refine ⟨fun m σ G' => G' = G ∧ ∃ r : Nat, m = r ∧ 0 < r ∧ Sw.root n ≤ r ∧ σ = [some (.int (n : Int)), some (.int (r : Int)), v2, some (.int (((r + n / r) / 2 : Nat) : Int))], ⟨r0, rfl, r0, rfl, hr0, hrt, ?_⟩, ?_⟩
        · rw [← newton_cast]
          rfl
        rintro m σ G' ⟨rfl, r, hm, h0, h1, rfl⟩
        refine ⟨_, rfl, _, rfl, _, _, rfl, rfl, _, rfl, ?_⟩
        by_cases d : (r + n / r) / 2 < r
        · rw [decide_eq_true (show ((((r + n / r) / 2 : Nat) : Int)) < ((r : Nat) : Int) by omega)]
          have g1 := Pm.newton_ge (n := n) h0
          have g2 := root_pos c
          refine iteT ⟨_, fun σ' G' h => h, ?_⟩
          generalize (r + n / r) / 2 = r1 at d g1
          refine ⟨_, rfl, _, rfl, _, rfl, _, rfl, _, _, rfl, rfl, (show ((r1 : Nat) : Int) ≠ 0 by omega), _, _, rfl, rfl, _, _, rfl, rfl, ⟨by decide, by decide⟩, r1, (by rw [hm]; exact d), rfl, r1, rfl, by omega, g1, ?_⟩
          rw [← newton_cast]
          rfl
        · rw [decide_eq_false (show ¬ ((((r + n / r) / 2 : Nat) : Int)) < ((r : Nat) : Int) by omega)]
          rw [← Pm.newton_end h0 h1 (by omega)] at q
          exact iteF ⟨_, rfl, q⟩
theorem scDV : FnScope ["a", "b", "greater", "lesser", "left_over"] ["a", "b"] (defScope sDV) := ⟨rfl, rfl, rfl, by decide +kernel, rfl, by decide +kernel, by decide +kernel⟩
theorem ok_DV {f : Addr} {fd : FuncData} (F : Fun K "divisor_of" "divisor_of" sDV f fd) (abs : mg "abs" = none) : FnOk P w K mg base CX0 1 f fd ["a", "b"] spDV := by
  refine F.ok scDV (fun vs H Q E h => ?_) (fun cdv A outer s H vs Q E hr h => ?_)
  · obtain ⟨a, b, rfl, _⟩ := h
    rfl
  · obtain ⟨a, b, rfl, q⟩ := h
    refine ⟨_, pss_cons (ps_set (i := 2) scDV.nd rfl (Or.inl rfl) (pe_callB call_abs rfl abs PyProof.Rows.boot_abs (pa_cons (pv 0) pa_nil)))
      (pss_cons (ps_set (i := 3) scDV.nd rfl (Or.inl rfl) (pe_callB call_abs rfl abs PyProof.Rows.boot_abs (pa_cons (pv 1) pa_nil)))
      (pss_cons (ps_while PassesOwn.never (pt_cmpR op_gt (pv 3) pe_int (nomark _))
        (pss_cons (ps_set (i := 4) scDV.nd rfl (Or.inl rfl) (pe_op op_mod (pv 2) (pv 3)))
        (pss_cons (ps_set (i := 2) scDV.nd rfl (Or.inl rfl) (pv 3))
        (pss_one (ps_set (i := 3) scDV.nd rfl (Or.inl rfl) (pv 4))))))
      (pss_one (ps_ret (pv 2))))), ?_⟩
    refine ⟨_, rfl, a, rfl, _, rfl, b, rfl, fun m σ G => G = H ∧ ∃ (g l : Nat) (v4 : Option V), m = l ∧ Nat.gcd g l = Int.gcd a b ∧ σ = [some (.int a), some (.int b), some (.int (g : Int)), some (.int (l : Int)), v4], ⟨b.natAbs, rfl, a.natAbs, b.natAbs, none, rfl, rfl, ?_⟩, ?_⟩
    · rw [← iabs, ← iabs]
      rfl
    · rintro m σ G ⟨rfl, g, l, v4, hm, hg, rfl⟩
      refine ⟨_, rfl, _, _, rfl, rfl, _, rfl, ?_⟩
      by_cases c : l = 0
      · rw [decide_eq_false (show ¬ (0 : Int) < ((l : Nat) : Int) by omega)]
        rw [c, Nat.gcd_zero_right] at hg
        rw [← hg] at q
        exact iteF ⟨_, rfl, q⟩
      · rw [decide_eq_true (show (0 : Int) < ((l : Nat) : Int) by omega)]
        refine iteT ⟨_, fun σ' G' h => h, ?_⟩
        refine ⟨_, rfl, _, rfl, _, _, rfl, rfl, (show (0 : Int) < ((l : Nat) : Int) by omega), ?_⟩
        refine ⟨_, rfl, _, rfl, g % l, (by rw [hm]; exact Nat.mod_lt g (by omega)), rfl, l, g % l, some (.int ((g % l : Nat) : Int)), rfl, ?_, ?_⟩
        · rw [← hg, Nat.gcd_comm g l, Nat.gcd_rec l g, Nat.gcd_comm]
        · rw [Int.natCast_emod]
          rfl
end
end L2.J

set_option Elab.async false
set_option linter.all false
set_option maxRecDepth 100000
set_option maxHeartbeats 2000000
namespace L2.J
open PySem PySem.Spec PyProof.Rows L2.XC
def cameOf (op : Nat) (a b : Int) : Option Int := match op with
  | 0 => some (a + b)
  | 1 => some (a - b)
  | 2 => some (a * b)
  | 3 => some (Int.fdiv a b)
  | 4 => some (Int.fmod a b)
  | 5 => some (min a b)
  | 6 => some (max a b)
  | 7 => pw a b.toNat
  | 8 => some ((Sw.root a.toNat : Nat) : Int)
  | _ => some ((Int.gcd a b : Nat) : Int)
def spRO (C9 : Addr) : Sp := fun vs H Q E => ∃ (op : Nat) (a b : Int), vs = [.int (op : Int), .int a, .int b] ∧ op ≤ 9 ∧ ¬ lacks op a b ∧ inR a ∧ inR b ∧ (match cameOf op a b with
  | some z => Q (.int z) H
  | none => ErrU E C9 [.int (-9)])
def res (op : Nat) (a b : Int) : Except Bool Int := if lacks op a b then .error true else match ranged (cameOf op a b) with
  | some z => .ok z
  | none => .error false
def spRK (C4 C9 : Addr) : Sp := fun vs H Q E => ∃ (op : Nat) (a b : Int), vs = [.int (op : Int), .int a, .int b] ∧ op ≤ 9 ∧ inR a ∧ inR b ∧ (match res op a b with
  | .ok z => ∀ H', Same H H' → Q (.int z) H'
  | .error true => ErrU E C4 [.int (-4)]
  | .error false => ErrU E C9 [.int (-9)])
theorem skipI {q : St} {H : Hp} {c op : Int} {t u : TS} {D : Ends} (h0 : q[0]? = some (some (.int op))) (hne : op ≠ c) (k : u D q H) : tSeq (tIfS (tTest (tOp rEq (tVar 0) (tC (.int c)))) t tNext) u D q H := by
  refine ⟨_, h0, rfl, _, rfl, ?_⟩
  rw [dint, decide_eq_false hne]
  exact iteF k
theorem takeI {q : St} {H : Hp} {c op : Int} {t u : TS} {D : Ends} (h0 : q[0]? = some (some (.int op))) (he : op = c) (k : t { D with nx := u D } q H) : tSeq (tIfS (tTest (tOp rEq (tVar 0) (tC (.int c)))) t tNext) u D q H := by
  refine ⟨_, h0, rfl, _, rfl, ?_⟩
  rw [dint, decide_eq_true he]
  exact iteT k
structure TxO (mg : Str → Option Value) : Prop where
  k0 : GI mg "SUM" 0
  k1 : GI mg "DIFFERENCE" 1
  k2 : GI mg "PRODUCT" 2
  k3 : GI mg "QUOTIENT" 3
  k4 : GI mg "LEFT_OVER" 4
  k5 : GI mg "LESSER" 5
  k6 : GI mg "GREATER" 6
  k7 : GI mg "POWER" 7
  k8 : GI mg "ROOT" 8
  k9 : GI mg "DIVISOR" 9
  mn : mg "min" = none
  mx : mg "max" = none
section
variable {P : Program} {w : World} {K : PySem.W.Frag} {mg : Str → Option Value} {base : Heap} {CF CR CP fFI U C4 C5 C9 f4 f5 f9 : Addr}
theorem scRO : FnScope ["op", "a", "b"] ["op", "a", "b"] (defScope sRO) := ⟨rfl, rfl, rfl, by decide +kernel, rfl, by decide +kernel, by decide +kernel⟩
theorem ok_RO {f fPO fRT fDV : Addr} {fd fdP fdR fdD : FuncData} (F : Fun K "reckon_out" "reckon_out" sRO f fd) (ht : P.given.tree = none) (O : TxO mg)
    (GP : FnOk P w K mg base (CXF P w) 4 fPO fdP ["a", "b"] (spPO C9)) (bP : Binds K fdP ["a", "b"] []) (kP : PySem.W.keepIn K (.ref fPO) = true) (mP : mg "power_of" = some (.ref fPO))
    (GR : FnOk P w K mg base CX0 35 fRT fdR ["a"] spRT) (bR : Binds K fdR ["a"] []) (kR : PySem.W.keepIn K (.ref fRT) = true) (mR : mg "root_of" = some (.ref fRT))
    (GD : FnOk P w K mg base CX0 1 fDV fdD ["a", "b"] spDV) (bD : Binds K fdD ["a", "b"] []) (kD : PySem.W.keepIn K (.ref fDV) = true) (mD : mg "divisor_of" = some (.ref fDV)) :
    FnOk P w K mg base (CXF P w) 36 f fd ["op", "a", "b"] (spRO C9) := by
  refine okX F scRO (fun vs H Q E h => ?_) (fun cdv A outer s H vs Q E hr h => ?_)
  · obtain ⟨op, a, b, rfl, _⟩ := h
    rfl
  · obtain ⟨op, a, b, rfl, hop, hl, ha, hb, q⟩ := h
    have hd := room_far hr (by decide)
    have hr4 : Room 4 _ := hr.mono (by decide)
    have hr1 : Room 1 _ := hr.mono (by decide)
    refine ⟨_, pss_cons (ps_if (pt_cmpR op_eq (pv 0) (pgi O.k0 rfl) (nomark _)) (pss_one (ps_ret (pe_op op_add (pv 1) (pv 2)))) pss_nil)
      (pss_cons (ps_if (pt_cmpR op_eq (pv 0) (pgi O.k1 rfl) (nomark _)) (pss_one (ps_ret (pe_op op_sub (pv 1) (pv 2)))) pss_nil)
      (pss_cons (ps_if (pt_cmpR op_eq (pv 0) (pgi O.k2 rfl) (nomark _)) (pss_one (ps_ret (pe_op op_mulB (pv 1) (pv 2)))) pss_nil)
      (pss_cons (ps_if (pt_cmpR op_eq (pv 0) (pgi O.k3 rfl) (nomark _)) (pss_one (ps_ret (pe_op (op_fdivB ht rfl rfl rfl hd) (pv 1) (pv 2)))) pss_nil)
      (pss_cons (ps_if (pt_cmpR op_eq (pv 0) (pgi O.k4 rfl) (nomark _)) (pss_one (ps_ret (pe_op op_modN (pv 1) (pv 2)))) pss_nil)
      (pss_cons (ps_if (pt_cmpR op_eq (pv 0) (pgi O.k5 rfl) (nomark _)) (pss_one (ps_ret (pe_callB (call_min2 rfl) rfl O.mn boot_min (pa_cons (pv 1) (pa_cons (pv 2) pa_nil))))) pss_nil)
      (pss_cons (ps_if (pt_cmpR op_eq (pv 0) (pgi O.k6 rfl) (nomark _)) (pss_one (ps_ret (pe_callB (call_max2 rfl) rfl O.mx boot_max (pa_cons (pv 1) (pa_cons (pv 2) pa_nil))))) pss_nil)
      (pss_cons (ps_if (pt_cmpR op_eq (pv 0) (pgi O.k7 rfl) (nomark _)) (pss_one (ps_ret (pe_call GP hr4 rfl mP kP bP .nil passX (pa_cons (pv 1) (pa_cons (pv 2) pa_nil))))) pss_nil)
      (pss_cons (ps_if (pt_cmpR op_eq (pv 0) (pgi O.k8 rfl) (nomark _)) (pss_one (ps_ret (pe_call GR hr rfl mR kR bR .nil pass0 (pa_cons (pv 1) pa_nil)))) pss_nil)
      (pss_one (ps_ret (pe_call GD hr1 rfl mD kD bD .nil pass0 (pa_cons (pv 1) (pa_cons (pv 2) pa_nil))))))))))))), ?_⟩
    have hc : op = 0 ∨ op = 1 ∨ op = 2 ∨ op = 3 ∨ op = 4 ∨ op = 5 ∨ op = 6 ∨ op = 7 ∨ op = 8 ∨ op = 9 := by omega
    rcases hc with rfl | rfl | rfl | rfl | rfl | rfl | rfl | rfl | rfl | rfl
    · exact takeI rfl rfl ⟨_, rfl, _, rfl, _, _, rfl, rfl, q⟩
    · exact skipI rfl (by decide) (takeI rfl rfl ⟨_, rfl, _, rfl, _, _, rfl, rfl, q⟩)
    · exact skipI rfl (by decide) (skipI rfl (by decide) (takeI rfl rfl ⟨_, rfl, _, rfl, _, _, rfl, rfl, inR_mul ha hb, q⟩))
    · have hb0 : b ≠ 0 := fun z => hl (.inl ⟨.inl rfl, z⟩)
      exact skipI rfl (by decide) (skipI rfl (by decide) (skipI rfl (by decide) (takeI rfl rfl ⟨_, rfl, _, rfl, _, _, rfl, rfl, hb0, q⟩)))
    · have hb0 : b ≠ 0 := fun z => hl (.inl ⟨.inr rfl, z⟩)
      exact skipI rfl (by decide) (skipI rfl (by decide) (skipI rfl (by decide) (skipI rfl (by decide) (takeI rfl rfl ⟨_, rfl, _, rfl, _, _, rfl, rfl, hb0, q⟩))))
    · have q : Q (.int (min a b)) H := q
      have e : min a b = if b < a then b else a := by
        by_cases c : b < a
        · rw [if_pos c]; omega
        · rw [if_neg c]; omega
      rw [e] at q
      exact skipI rfl (by decide) (skipI rfl (by decide) (skipI rfl (by decide) (skipI rfl (by decide) (skipI rfl (by decide) (takeI rfl rfl ⟨_, rfl, _, rfl, _, _, rfl, q⟩)))))
    · have q : Q (.int (max a b)) H := q
      have e : max a b = if b > a then b else a := by
        by_cases c : b > a
        · rw [if_pos c]; omega
        · rw [if_neg c]; omega
      rw [e] at q
      exact skipI rfl (by decide) (skipI rfl (by decide) (skipI rfl (by decide) (skipI rfl (by decide) (skipI rfl (by decide) (skipI rfl (by decide) (takeI rfl rfl ⟨_, rfl, _, rfl, _, _, rfl, q⟩))))))
    · have hb0 : ¬ b < 0 := fun z => hl (.inr (.inl ⟨rfl, z⟩))
      exact skipI rfl (by decide) (skipI rfl (by decide) (skipI rfl (by decide) (skipI rfl (by decide) (skipI rfl (by decide) (skipI rfl (by decide) (skipI rfl (by decide) (takeI rfl rfl ⟨_, rfl, _, rfl, a, b.toNat, by rw [Int.toNat_of_nonneg (by omega)]; rfl, ha, q⟩)))))))
    · have ha0 : ¬ a < 0 := fun z => hl (.inr (.inr ⟨rfl, z⟩))
      exact skipI rfl (by decide) (skipI rfl (by decide) (skipI rfl (by decide) (skipI rfl (by decide) (skipI rfl (by decide) (skipI rfl (by decide) (skipI rfl (by decide) (skipI rfl (by decide) (takeI rfl rfl ⟨_, rfl, a.toNat, by rw [Int.toNat_of_nonneg (by omega)]; rfl, by rw [Int.toNat_of_nonneg (by omega)]; exact ha, q⟩))))))))
    · exact skipI rfl (by decide) (skipI rfl (by decide) (skipI rfl (by decide) (skipI rfl (by decide) (skipI rfl (by decide) (skipI rfl (by decide) (skipI rfl (by decide) (skipI rfl (by decide) (skipI rfl (by decide) ⟨_, rfl, _, rfl, a, b, rfl, q⟩))))))))
theorem scRK : FnScope ["op", "a", "b", "came"] ["op", "a", "b"] (defScope sRK) := ⟨rfl, rfl, rfl, by decide +kernel, rfl, by decide +kernel, by decide +kernel⟩
theorem ok_RK {f fLR fRO fIR : Addr} {fd fdL fdO fdI fd4 fd9 : FuncData} (F : Fun K "reckon" "reckon" sRK f fd) (uc4 : UCls K U C4 f4) (m4 : mg "NoResult" = some (.ref C4)) (uc9 : UCls K U C9 f9) (m9 : mg "OutOfRange" = some (.ref C9))
    (G4 : FnOk P w K mg base CX0 2 f4 fd4 ["self"] (spSI C4 0 aNR)) (b4 : Binds K fd4 ["self"] []) (G9 : FnOk P w K mg base CX0 2 f9 fd9 ["self"] (spSI C9 0 aNV)) (b9 : Binds K fd9 ["self"] [])
    (GL : FnOk P w K mg base CX0 1 fLR fdL ["op", "a", "b"] spLR) (bL : Binds K fdL ["op", "a", "b"] []) (kL : PySem.W.keepIn K (.ref fLR) = true) (mL : mg "lacks_result" = some (.ref fLR))
    (GO : FnOk P w K mg base (CXF P w) 36 fRO fdO ["op", "a", "b"] (spRO C9)) (bO : Binds K fdO ["op", "a", "b"] []) (kO : PySem.W.keepIn K (.ref fRO) = true) (mO : mg "reckon_out" = some (.ref fRO))
    (GI : FnOk P w K mg base CX0 1 fIR fdI ["number"] spIR) (bI : Binds K fdI ["number"] []) (kI : PySem.W.keepIn K (.ref fIR) = true) (mI : mg "is_in_range" = some (.ref fIR)) :
    FnOk P w K mg base (CXF P w) 37 f fd ["op", "a", "b"] (spRK C4 C9) := by
  refine okX F scRK (fun vs H Q E h => ?_) (fun cdv A outer s H vs Q E hr h => ?_)
  · obtain ⟨op, a, b, rfl, _⟩ := h
    rfl
  · obtain ⟨op, a, b, rfl, hop, ha, hb, q⟩ := h
    have hr3 : Room 3 _ := hr.mono (by decide)
    have hr1 : Room 1 _ := hr.mono (by decide)
    refine ⟨_, pss_cons (ps_if (pt_val (pe_call GL hr1 rfl mL kL bL .nil pass0 (pa_cons (pv 0) (pa_cons (pv 1) (pa_cons (pv 2) pa_nil))))) (pss_one (ps_raiseU0 uc4 G4 b4 rfl hr3 flies_cx rfl rfl m4)) pss_nil)
      (pss_cons (ps_set (i := 3) scRK.nd rfl (Or.inl rfl) (pe_call GO hr rfl mO kO bO .nil passX (pa_cons (pv 0) (pa_cons (pv 1) (pa_cons (pv 2) pa_nil)))))
      (pss_cons (ps_if (pt_not (pt_val (pe_call GI hr1 rfl mI kI bI .nil pass0 (pa_cons (pv 3) pa_nil)))) (pss_one (ps_raiseU0 uc9 G9 b9 rfl hr3 flies_cx rfl rfl m9)) pss_nil)
      (pss_one (ps_ret (pv 3))))), ?_⟩
    refine ⟨_, rfl, _, rfl, _, rfl, op, a, b, rfl, fun H1 k1 => ⟨_, rfl, ?_⟩⟩
    unfold res at q
    by_cases c : lacks op a b
    · rw [if_pos c] at q
      rw [decide_eq_true c]
      exact iteT ⟨rfl, q⟩
    · rw [if_neg c] at q
      rw [decide_eq_false c]
      refine iteF ⟨_, rfl, _, rfl, _, rfl, op, a, b, rfl, hop, c, ha, hb, ?_⟩
      cases e : cameOf op a b with
      | none =>
        rw [e] at q
        exact q
      | some z =>
        rw [e] at q
        have q : (match (if inR z then some z else none : Option Int) with
          | some z => Except.ok z
          | none => Except.error false : Except Bool Int) |> (fun r => match r with
          | .ok z => ∀ H', Same H H' → Q (.int z) H'
          | .error true => ErrU E C4 [.int (-4)]
          | .error false => ErrU E C9 [.int (-9)]) := q
        refine ⟨_, rfl, z, rfl, _, rfl, ?_⟩
        by_cases d : inR z
        · rw [if_pos d] at q
          rw [decide_eq_true d]
          exact iteF ⟨_, rfl, q H1 k1⟩
        · rw [if_neg d] at q
          rw [decide_eq_false d]
          exact iteT ⟨rfl, q⟩
end
end L2.J

set_option Elab.async false
set_option linter.all false
set_option maxRecDepth 100000
set_option maxHeartbeats 2000000
namespace L2.J
open PySem PySem.Spec PyProof.Rows L2.XC
def resL (r : Except Bool Int) : List Int := match r with
  | .ok z => 0 :: bInts (2 :: Sw.numberBytes z)
  | .error true => [-4]
  | .error false => [-9]
def numL (op : Nat) (v w : Sw.Value) : List Int := match numOf v, numOf w with
  | some x, some y => resL (res op x y)
  | _, _ => [-5]
def numberL (z : Int) (bs cs : List UInt8) : List Int := if 0 ≤ z ∧ z ≤ 9 then (match Sw.decode bs, Sw.decode cs with
  | .ok v, .ok w => numL z.toNat v w
  | _, _ => [-6]) else [-1]
def spNM (K : PySem.W.Frag) : Sp := fun vs H Q _ => ∃ (z : Int) (a : Addr) (bs : List UInt8) (b : Addr) (cs : List UInt8), vs = [.int z, .ref a, .ref b] ∧ SqL K H a (bs.map bv) ∧ bs.length ≤ 65536 ∧ SqL K H b (cs.map bv) ∧ cs.length ≤ 65536 ∧ ∀ (H' : Hp) (p : Addr), H' p = some (.lst ((numberL z bs cs).map V.int)) → Q (.ref p) H'
theorem num_plain {v : Sw.Value} {z : Int} (h : numOf v = some z) (pl : v.plain = true) : inR z := by
  cases v with
  | num y =>
    have h : some y = some z := h
    injection h with h
    subst h
    exact inR_iff.mpr (of_decide_eq_true pl)
  | _ => cases h
theorem refuse_end {Q : VK} {H' : Hp} {o : HO} {dx an e : Addr} {ans : List V} (q : ∀ (H' : Hp) (p : Addr), H' p = some (.lst ans) → Q (.ref p) H') (hdx : H' dx = some (XD dx [("answer", .ref an)])) (han : H' an = some (.lst ans)) (he : H' e = none) :
    upd H' e o dx = some (XD dx [("answer", .ref an)]) ∧ Q (.ref an) (upd H' e o) :=
  ⟨(upd_ne (ne_of_none hdx he)).trans hdx, q _ an ((upd_ne (ne_of_none han he)).trans han)⟩
section
variable {P : Program} {w : World} {K : PySem.W.Frag} {mg : Str → Option Value} {base : Heap} {CF CR CP fFI U C4 C5 C9 f4 f5 f9 : Addr}
theorem scNM : FnScope ["op", "a", "b", "first", "second", "refusal"] ["op", "a", "b"] (defScope sNM) := ⟨rfl, rfl, rfl, by decide +kernel, rfl, by decide +kernel, by decide +kernel⟩
theorem ok_NM {f fRW fIO fND fRK fNR : Addr} {fd fdW fdO fdN fdK fdR : FuncData} (F : Fun K "number" "number" sNM f fd) (xc : XCls K CF fFI) (mF : mg "Fault" = some (.ref CF)) (mU : mg "Refusal" = some (.ref U))
    (uc5 : UCls K U C5 f5) (uc4 : UCls K U C4 f4) (uc9 : UCls K U C9 f9) (s5 : Sub2 K CF U C5) (s4 : Sub2 K CF U C4) (s9 : Sub2 K CF U C9)
    (GO : FnOk P w K mg base CX0 1 fIO fdO ["op"] spIO) (bO : Binds K fdO ["op"] []) (kO : PySem.W.keepIn K (.ref fIO) = true) (mO : mg "is_operation" = some (.ref fIO))
    (GW : FnOk P w K mg base (CXF P w) 9 fRW fdW ["row"] (spRW K CF CP)) (bW : Binds K fdW ["row"] []) (kW : PySem.W.keepIn K (.ref fRW) = true) (mW : mg "read_whole" = some (.ref fRW))
    (GN : FnOk P w K mg base (CXF P w) 4 fND fdN ["row", "whole"] (spND K CP C5)) (bN : Binds K fdN ["row", "whole"] []) (kN : PySem.W.keepIn K (.ref fND) = true) (mN : mg "need_number" = some (.ref fND))
    (GK : FnOk P w K mg base (CXF P w) 37 fRK fdK ["op", "a", "b"] (spRK C4 C9)) (bK : Binds K fdK ["op", "a", "b"] []) (kK : PySem.W.keepIn K (.ref fRK) = true) (mK : mg "reckon" = some (.ref fRK))
    (GR : FnOk P w K mg base CX0 2 fNR fdR ["number"] spNR) (bR : Binds K fdR ["number"] []) (kR : PySem.W.keepIn K (.ref fNR) = true) (mR : mg "number_row" = some (.ref fNR)) :
    FnOk P w K mg base CX0 40 f fd ["op", "a", "b"] (spNM K) := by
  refine F.ok scNM (fun vs H Q E h => ?_) (fun cdv A outer s H vs Q E hr h => ?_)
  · obtain ⟨z, a, bs, b, cs, rfl, _⟩ := h
    rfl
  · obtain ⟨z, a, bs, b, cs, rfl, hs, hz, hs2, hz2, q⟩ := h
    have hr1 : Room 1 _ := hr.mono (by decide)
    have hr2 : Room 2 _ := hr.mono (by decide)
    have hr4 : Room 4 _ := hr.mono (by decide)
    have hr9 : Room 9 _ := hr.mono (by decide)
    have hr37 : Room 37 _ := hr.mono (by decide)
    refine ⟨_, pss_cons (ps_if (pt_not (pt_val (pe_call GO hr1 rfl mO kO bO .nil pass0 (pa_cons (pv 0) pa_nil)))) (pss_one (ps_ret (pe_lst (pa_cons (pe_un un_neg pe_int) pa_nil)))) pss_nil)
      (pss_one (ps_try2 (U := U) (i := 5) xc rfl mF rfl mU rfl ⟨outer, rfl⟩ scNM.nd rfl rfl
        (fun pn xe E' fl => pss_cons (ps_set (i := 3) scNM.nd rfl (Or.inl rfl) (pe_call GW hr9 rfl mW kW bW .nil (passes_of fl rfl) (pa_cons (pv 1) pa_nil)))
          (pss_cons (ps_set (i := 4) scNM.nd rfl (Or.inl rfl) (pe_call GW hr9 rfl mW kW bW .nil (passes_of fl rfl) (pa_cons (pv 2) pa_nil)))
          (pss_one (ps_ret (pe_op op_cat (pe_lst (pa_cons pe_int pa_nil)) (pe_call GR hr2 rfl mR kR bR .nil pass0 (pa_cons (pe_call GK hr37 rfl mK kK bK .nil (passes_of fl rfl) (pa_cons (pv 0)
            (pa_cons (pe_call GN hr4 rfl mN kN bN .nil (passes_of fl rfl) (pa_cons (pv 1) (pa_cons (pv 3) pa_nil)))
            (pa_cons (pe_call GN hr4 rfl mN kN bN .nil (passes_of fl rfl) (pa_cons (pv 2) (pa_cons (pv 4) pa_nil))) pa_nil)))) pa_nil)))))))
        (fun v => pss_one (ps_ret (pe_lst (pa_cons (pe_un un_neg pe_int) pa_nil))))
        (fun v => pss_one (ps_ret (pe_uf (U := U) (K := K) rfl (pv 5) rfl))))), ?_⟩
    have w1 := Pm.whole_rel bs
    have w2 := Pm.whole_rel cs
    unfold numberL at q
    refine ⟨_, rfl, z, rfl, _, rfl, ?_⟩
    by_cases c : 0 ≤ z ∧ z ≤ 9
    case neg =>
      rw [if_neg c] at q
      rw [decide_eq_false c]
      exact iteT ⟨_, rfl, (by show 1 ≤ sizeLine; decide), fun p hp => q _ p upd_same⟩
    rw [if_pos c] at q
    rw [decide_eq_true c]
    refine iteF ⟨_, rfl, a, bs, rfl, hs, hz, ?_⟩
    cases e1 : Sw.decode bs with
    | error e =>
      rw [e1] at w1 q
      have w1 : Pm.wholeAt bs = .error e := w1
      rw [w1]
      intro H' dx hdx
      exact .inl ⟨rfl, _, rfl, (by show 1 ≤ sizeLine; decide), fun p hp => q _ p upd_same⟩
    | ok v =>
      rw [e1] at w1 q
      obtain ⟨w1, ev, pv1, dv1⟩ := w1
      rw [w1]
      intro aw H1 tr1 k1
      refine ⟨_, rfl, b, cs, rfl, k1.seq hs2, hz2, ?_⟩
      cases e2 : Sw.decode cs with
      | error e =>
        rw [e2] at w2 q
        have w2 : Pm.wholeAt cs = .error e := w2
        rw [w2]
        intro H' dx hdx
        exact .inl ⟨rfl, _, rfl, (by show 1 ≤ sizeLine; decide), fun p hp => q _ p upd_same⟩
      | ok v2 =>
        rw [e2] at w2 q
        obtain ⟨w2, ev2, pv2, _⟩ := w2
        rw [w2]
        have q : ∀ (H' : Hp) (p : Addr), H' p = some (.lst ((numL z.toNat v v2).map V.int)) → Q (.ref p) H' := q
        unfold numL at q
        intro aw2 H2 tr2 k2
        have k12 := k1.trans k2
        refine ⟨(by show 1 ≤ sizeLine; decide), fun x0 hx0 => ?_⟩
        have k4 : Same H2 (upd H2 x0 (.lst [.int 0])) := fun c o e => (upd_ne (ne_of_none e hx0)).trans e
        generalize hB : upd H2 x0 (.lst [V.int 0]) = B at k4
        have hx0B : B x0 = some (.lst [V.int 0]) := by rw [← hB, upd_same]
        have k14 := k12.trans k4
        have ndv : Nd CP B bs aw v 0 0 [] := (Nd.whole tr1 ev pv1).same (k2.trans k4)
        have ndw : Nd CP B cs aw2 v2 0 0 [] := (Nd.whole tr2 ev2 pv2).same k4
        refine ⟨_, rfl, _, rfl, _, rfl, a, aw, bs, v, 0, 0, [], rfl, k14.seq hs, ndv, ?_⟩
        cases n1 : numOf v with
        | none =>
          rw [n1] at q
          intro H' dx an hdx han
          exact .inr ⟨C5, dx, rfl, s5, rfl, fun e he => ⟨_, rfl, e, C5, f5, dx, .ref an, rfl, uc5, upd_same, refuse_end q hdx han he⟩⟩
        | some x =>
          rw [n1] at q
          intro H3 k3
          refine ⟨_, rfl, _, rfl, b, aw2, cs, v2, 0, 0, [], rfl, (k14.trans k3).seq hs2, ndw.same k3, ?_⟩
          cases n2 : numOf v2 with
          | none =>
            rw [n2] at q
            intro H' dx an hdx han
            exact .inr ⟨C5, dx, rfl, s5, rfl, fun e he => ⟨_, rfl, e, C5, f5, dx, .ref an, rfl, uc5, upd_same, refuse_end q hdx han he⟩⟩
          | some y =>
            rw [n2] at q
            have q : ∀ (H' : Hp) (p : Addr), H' p = some (.lst ((resL (res z.toNat x y)).map V.int)) → Q (.ref p) H' := q
            intro H4 k4'
            refine ⟨z.toNat, x, y, by rw [Int.toNat_of_nonneg c.1]; rfl, by omega, num_plain n1 pv1, num_plain n2 pv2, ?_⟩
            cases er : res z.toNat x y with
            | error t =>
              rw [er] at q
              cases t with
              | true =>
                intro H' dx an hdx han
                exact .inr ⟨C4, dx, rfl, s4, rfl, fun e he => ⟨_, rfl, e, C4, f4, dx, .ref an, rfl, uc4, upd_same, refuse_end q hdx han he⟩⟩
              | false =>
                intro H' dx an hdx han
                exact .inr ⟨C9, dx, rfl, s9, rfl, fun e he => ⟨_, rfl, e, C9, f9, dx, .ref an, rfl, uc9, upd_same, refuse_end q hdx han he⟩⟩
            | ok r =>
              rw [er] at q
              intro H5 k5
              have hin : inR r := by
                unfold res at er
                by_cases cl : lacks z.toNat x y
                · rw [if_pos cl] at er; cases er
                · rw [if_neg cl] at er
                  cases ec : cameOf z.toNat x y with
                  | none => rw [ec] at er; cases er
                  | some t =>
                    rw [ec] at er
                    unfold ranged at er
                    dsimp only at er
                    by_cases ct : inR t
                    · rw [if_pos ct] at er
                      injection er with er
                      subst er
                      exact ct
                    · rw [if_neg ct] at er; cases er
              have hal : Sw.amountLength r.natAbs ≤ 4096 := Pm.amount_le 4096 _ (inR_iff.mp hin)
              refine ⟨r, rfl, by omega, fun t H6 k6 _ h6 => ?_⟩
              have k36 := ((k3.trans k4').trans k5).trans k6
              refine ⟨x0, t, _, _, rfl, rfl, k36 _ _ hx0B, h6, ?_, fun p hp => q _ p ?_⟩
              · have l5 := vary_len5 (n := 2 * Sw.amountLength r.natAbs + if r < 0 then 1 else 0) (by split <;> omega)
                rw [List.length_map, sizeLine_eq]
                unfold Sw.numberBytes
                simp only [List.length_cons, List.length_append, Pm.le_len, List.length_nil]
                omega
              · rw [upd_same]
                show some (HO.lst (V.int 0 :: (2 :: Sw.numberBytes r).map bv)) = some (HO.lst (V.int 0 :: (bInts (2 :: Sw.numberBytes r)).map V.int))
                rw [bv_ints]
end
theorem operate_is {op : Nat} (h : op ≤ 9) (a b : Int) : ansL (match Sw.operate op a b with
    | .error z => Values.num z
    | .ok z => if z.natAbs < 256 ^ Sw.NUMBER then Values.gives (Sw.Value.num z).enc else Values.num (-9)) = resL (res op a b) := by
  have fin : ∀ o : Option Int, ansL (match (match ranged o with
      | some z => .ok z
      | none => .error (-9) : Except Int Int) with
    | .error z => Values.num z
    | .ok z => Values.gives (Sw.Value.num z).enc) = resL (match ranged o with
      | some z => .ok z
      | none => .error false) := fun o => by
    cases ranged o <;> rfl
  have fin1 : ∀ z : Int, ansL (if z.natAbs < 256 ^ Sw.NUMBER then Values.gives (Sw.Value.num z).enc else Values.num (-9)) = resL (match ranged (some z) with
      | some z => .ok z
      | none => .error false) := fun z => by
    unfold ranged
    dsimp only
    by_cases c : inR z
    · rw [if_pos c, if_pos (inR_iff.mp c)]
      rfl
    · rw [if_neg c, if_neg (fun x => c (inR_iff.mpr x))]
      rfl
  have hc : op = 0 ∨ op = 1 ∨ op = 2 ∨ op = 3 ∨ op = 4 ∨ op = 5 ∨ op = 6 ∨ op = 7 ∨ op = 8 ∨ op = 9 := by omega
  unfold res
  rcases hc with rfl | rfl | rfl | rfl | rfl | rfl | rfl | rfl | rfl | rfl
  · rw [if_neg (by unfold lacks; omega)]; exact fin1 _
  · rw [if_neg (by unfold lacks; omega)]; exact fin1 _
  · rw [if_neg (by unfold lacks; omega)]; exact fin1 _
  · by_cases c : b = 0
    · rw [if_pos (show lacks 3 a b from .inl ⟨.inl rfl, c⟩)]
      rw [show Sw.operate 3 a b = if b = 0 then .error (-4) else .ok (Int.fdiv a b) from rfl]
      rw [if_pos c]
      rfl
    · rw [if_neg (show ¬ lacks 3 a b by unfold lacks; omega)]
      rw [show Sw.operate 3 a b = if b = 0 then .error (-4) else .ok (Int.fdiv a b) from rfl]
      rw [if_neg c]
      exact fin1 _
  · by_cases c : b = 0
    · rw [if_pos (show lacks 4 a b from .inl ⟨.inr rfl, c⟩)]
      rw [show Sw.operate 4 a b = if b = 0 then .error (-4) else .ok (Int.fmod a b) from rfl]
      rw [if_pos c]
      rfl
    · rw [if_neg (show ¬ lacks 4 a b by unfold lacks; omega)]
      rw [show Sw.operate 4 a b = if b = 0 then .error (-4) else .ok (Int.fmod a b) from rfl]
      rw [if_neg c]
      exact fin1 _
  · rw [if_neg (by unfold lacks; omega)]; exact fin1 _
  · rw [if_neg (by unfold lacks; omega)]; exact fin1 _
  · by_cases c : b < 0
    · rw [if_pos (show lacks 7 a b from .inr (.inl ⟨rfl, c⟩))]
      rw [show Sw.operate 7 a b = if b < 0 then .error (-4) else (match Sw.power a b.toNat with
        | some z => .ok z
        | none => .error (-9)) from rfl]
      rw [if_pos c]
      rfl
    · rw [if_neg (show ¬ lacks 7 a b by unfold lacks; omega)]
      rw [show Sw.operate 7 a b = if b < 0 then .error (-4) else (match Sw.power a b.toNat with
        | some z => .ok z
        | none => .error (-9)) from rfl]
      rw [if_neg c]
      show _ = resL (match ranged (pw a b.toNat) with
        | some z => .ok z
        | none => .error false)
      rw [pw_is]
      cases e : Sw.power a b.toNat with
      | none => rfl
      | some z => exact fin1 z
  · by_cases c : a < 0
    · rw [if_pos (show lacks 8 a b from .inr (.inr ⟨rfl, c⟩))]
      rw [show Sw.operate 8 a b = if a < 0 then .error (-4) else .ok ((Sw.root a.toNat : Nat) : Int) from rfl]
      rw [if_pos c]
      rfl
    · rw [if_neg (show ¬ lacks 8 a b by unfold lacks; omega)]
      rw [show Sw.operate 8 a b = if a < 0 then .error (-4) else .ok ((Sw.root a.toNat : Nat) : Int) from rfl]
      rw [if_neg c]
      exact fin1 _
  · rw [if_neg (by unfold lacks; omega)]; exact fin1 _
theorem number_is (z : Int) (bs cs : List UInt8) (h : bs.length ≤ 65536) (h2 : cs.length ≤ 65536) : PyYqswga.number z (bInts bs) (bInts cs) = numberL z bs cs := by
  show ansL (if Sw.MOST < (ValuesNeutral.text (bInts bs)).length ∨ Sw.MOST < (ValuesNeutral.text (bInts cs)).length then Values.num (-2) else if z < 0 ∨ 9 < z then Values.num (-1) else Values.withTwo (ValuesNeutral.text (bInts bs)) (ValuesNeutral.text (bInts cs)) _) = _
  rw [text_ints, text_ints]
  rw [if_neg (by show ¬ (16777216 < bs.length ∨ 16777216 < cs.length); omega)]
  unfold numberL
  by_cases c : 0 ≤ z ∧ z ≤ 9
  · rw [if_neg (by omega), if_pos c]
    unfold Values.withTwo
    rw [if_neg (by show ¬ (16777216 < bs.length ∨ 16777216 < cs.length); omega)]
    cases e1 : Sw.decode bs with
    | error e => rfl
    | ok v =>
      cases e2 : Sw.decode cs with
      | error e => rfl
      | ok w =>
        clear e1 e2
        show ansL (match v, w with
          | .num x, .num y => (match Sw.operate z.toNat x y with
            | .error z => Values.num z
            | .ok z => if z.natAbs < 256 ^ Sw.NUMBER then Values.gives (Sw.Value.num z).enc else Values.num (-9))
          | _, _ => Values.num (-5)) = numL z.toNat v w
        cases v with
        | num x =>
          cases w with
          | num y => exact operate_is (by omega) x y
          | _ => rfl
        | _ => cases w <;> rfl
  · rw [if_pos (by omega), if_neg c]
    rfl
end L2.J

set_option Elab.async false
set_option linter.all false
set_option maxRecDepth 100000
set_option maxHeartbeats 2000000
namespace L2.J
open PySem PySem.Spec PyProof.Rows L2.XC
theorem all_mk {P : Program} {w : World} {K : PySem.W.Frag} {h : Heap} {mg : Str → Option Value} {fa CF CR CP N : Addr} (X : K.In h) (G : h.Ns mainGlobals mg) (hfa : mg "number" = some (.ref fa))
    {nm q : Str} {bs : List Value} {sn : List Str} {sub : List Value} {ab : Bool} {col : Option Bool} {dd : Option Addr} {k0 k1 k2 k3 k5 : Option Value} {oN : Obj}
    {fFI fRI fSB fRB fPB fRV fSL fLS fHS fPS fCU fPN fPR fRN fPI fLM fDP fBM fBP fRW fUI fU5 fU4 fU9 fIB fAO fNO fVR fAR fNR fIR fIO fND fRK fLR fRO fPO fRT fDV fEN : Addr}
    {odFI anFI odRI anRI odSB anSB odRB anRB odPB anPB odRV anRV odSL anSL odLS anLS odHS anHS odPS anPS odCU anCU odPN anPN odPR anPR odRN anRN odPI anPI odLM anLM odDP anDP odBM anBM odBP anBP odRW anRW odUI anUI odU5 anU5 odU4 anU4 odU9 anU9 odIB anIB odAO anAO odNO anNO odVR anVR odAR anAR odNR anNR odIR anIR odIO anIO odND anND odRK anRK odLR anLR odRO anRO odPO anPO odRT anRT odDV anDV odEN anEN : Option Addr}
    {slFI slRI slSB slRB slPB slRV slSL slLS slHS slPS slCU slPN slPR slRN slPI slLM slDP slBM slBP slRW slUI slU5 slU4 slU9 slIB slAO slNO slVR slAR slNR slIR slIO slND slRK slLR slRO slPO slRT slDV slEN : Array (Option Value)}
    {ocFI kVFI dcFI pmFI cdFI ctFI ocRI kVRI dcRI pmRI cdRI ctRI ocSB kVSB dcSB pmSB cdSB ctSB ocRB kVRB dcRB pmRB cdRB ctRB ocPB kVPB dcPB pmPB cdPB ctPB ocRV kVRV dcRV pmRV cdRV ctRV ocSL kVSL dcSL pmSL cdSL ctSL ocLS kVLS dcLS pmLS cdLS ctLS ocHS kVHS dcHS pmHS cdHS ctHS ocPS kVPS dcPS pmPS cdPS ctPS ocCU kVCU dcCU pmCU cdCU ctCU ocPN kVPN dcPN pmPN cdPN ctPN ocPR kVPR dcPR pmPR cdPR ctPR ocRN kVRN dcRN pmRN cdRN ctRN ocPI kVPI dcPI pmPI cdPI ctPI ocLM kVLM dcLM pmLM cdLM ctLM ocDP kVDP dcDP pmDP cdDP ctDP ocBM kVBM dcBM pmBM cdBM ctBM ocBP kVBP dcBP pmBP cdBP ctBP ocRW kVRW dcRW pmRW cdRW ctRW ocUI kVUI dcUI pmUI cdUI ctUI ocU5 kVU5 dcU5 pmU5 cdU5 ctU5 ocU4 kVU4 dcU4 pmU4 cdU4 ctU4 ocU9 kVU9 dcU9 pmU9 cdU9 ctU9 ocIB kVIB dcIB pmIB cdIB ctIB ocAO kVAO dcAO pmAO cdAO ctAO ocNO kVNO dcNO pmNO cdNO ctNO ocVR kVVR dcVR pmVR cdVR ctVR ocAR kVAR dcAR pmAR cdAR ctAR ocNR kVNR dcNR pmNR cdNR ctNR ocIR kVIR dcIR pmIR cdIR ctIR ocIO kVIO dcIO pmIO cdIO ctIO ocND kVND dcND pmND cdND ctND ocRK kVRK dcRK pmRK cdRK ctRK ocLR kVLR dcLR pmLR cdLR ctLR ocRO kVRO dcRO pmRO cdRO ctRO ocPO kVPO dcPO pmPO cdPO ctPO ocRT kVRT dcRT pmRT cdRT ctRT ocDV kVDV dcDV pmDV cdDV ctDV ocEN kVEN dcEN pmEN cdEN ctEN : Value}
    {tENDS_TOO_SOON tWRONG_VARYING tMOST_VARYING_BYTES tHIGHEST_VARYING tLOWEST_FURTHER tHIGHEST_FURTHER tWRONG_UTF8 tLONGEST_NUMBER tWRONG_NUMBER tTEXT tLONGEST_NAME tWRONG_NAME tNUMBER tBYTES tLIST tRECORD tMOMENT tIDENTITY tLAST_KIND tDEEPEST tMOMENT_LENGTH tIDENTITY_LENGTH tWRONG_KIND tTOO_DEEP tBYTES_BEHIND tSUM tDIFFERENCE tPRODUCT tQUOTIENT tLEFT_OVER tLESSER tGREATER tPOWER tROOT tDIVISOR : PySem.Tok}
    {CZ : Addr} {ocU : Value} {odU : Option Addr} {cdU : ClassData} {slU : Array (Option Value)}
    {C5 NC5 : Addr} {nmC5 qC5 : Str} {bsC5 subC5 : List Value} {snC5 : List Str} {abC5 : Bool} {colC5 : Option Bool} {ddC5 : Option Addr} {k0C5 k1C5 k2C5 k3C5 k5C5 : Option Value}
    {C4 NC4 : Addr} {nmC4 qC4 : Str} {bsC4 subC4 : List Value} {snC4 : List Str} {abC4 : Bool} {colC4 : Option Bool} {ddC4 : Option Addr} {k0C4 k1C4 k2C4 k3C4 k5C4 : Option Value}
    {C9 NC9 : Addr} {nmC9 qC9 : Str} {bsC9 subC9 : List Value} {snC9 : List Str} {abC9 : Bool} {colC9 : Option Bool} {ddC9 : Option Addr} {k0C9 k1C9 k2C9 k3C9 k5C9 : Option Value}
    (aCF : PySem.W.nsIn K mainGlobals "Fault" = some (some (.ref CF)))
    (aCR : PySem.W.nsIn K mainGlobals "Reader" = some (some (.ref CR)))
    (aCP : PySem.W.nsIn K mainGlobals "Part" = some (some (.ref CP)))
    (lCF : K.lookup CF = some (excClassObj nm q CF N bs bmE true sn sub ab col dd k0 k1 k2 k3 k5 "Exception.__new__"))
    (lN : K.lookup N = some oN)
    (okN : keysOk oN = true)
    (xI : PySem.W.nsIn K N "__init__" = some (some (.ref fFI)))
    (xS : PySem.W.nsIn K N "__setattr__" = some none)
    (xG : PySem.W.nsIn K N "__getattribute__" = some none)
    (xH : PySem.W.nsIn K N "__getattr__" = some none)
    (xK : PySem.W.nsIn K N "kind" = some none)
    (xP : PySem.W.nsIn K N "place" = some none)
    (kCF : PySem.W.keepIn K (.ref CF) = true)
    (pgCR : PySem.W.plainGet K CR Str.empty = true)
    (hdCR : PySem.W.hasDictIn K CR = true)
    (poCR : PySem.W.plainOver K CR = true)
    (saCR : PySem.W.findIn K (.ref CR) "__setattr__" = some (some (.builtin "object.__setattr__")))
    (mkCR : PySem.W.makesIn K CR = true)
    (kcCR : PySem.W.keepIn K (.ref CR) = true)
    (nCR_row : PySem.W.findIn K (.ref CR) "row" = some none)
    (nCR_place : PySem.W.findIn K (.ref CR) "place" = some none)
    (pgCP : PySem.W.plainGet K CP Str.empty = true)
    (hdCP : PySem.W.hasDictIn K CP = true)
    (poCP : PySem.W.plainOver K CP = true)
    (saCP : PySem.W.findIn K (.ref CP) "__setattr__" = some (some (.builtin "object.__setattr__")))
    (mkCP : PySem.W.makesIn K CP = true)
    (kcCP : PySem.W.keepIn K (.ref CP) = true)
    (nCP_kind : PySem.W.findIn K (.ref CP) "kind" = some none)
    (nCP_place : PySem.W.findIn K (.ref CP) "place" = some none)
    (nCP_inside : PySem.W.findIn K (.ref CP) "inside" = some none)
    (nCP_end : PySem.W.findIn K (.ref CP) "end" = some none)
    (nCP_size : PySem.W.findIn K (.ref CP) "size" = some none)
    (nCP_depth : PySem.W.findIn K (.ref CP) "depth" = some none)
    (nCP_name_place : PySem.W.findIn K (.ref CP) "name_place" = some none)
    (nCP_name : PySem.W.findIn K (.ref CP) "name" = some none)
    (nCP_members : PySem.W.findIn K (.ref CP) "members" = some none)
    (aU : PySem.W.nsIn K mainGlobals "Refusal" = some (some (.ref CZ)))
    (aC5 : PySem.W.nsIn K mainGlobals "NoNumber" = some (some (.ref C5)))
    (aC4 : PySem.W.nsIn K mainGlobals "NoResult" = some (some (.ref C4)))
    (aC9 : PySem.W.nsIn K mainGlobals "OutOfRange" = some (some (.ref C9)))
    (iFI : PySem.W.isFn K (.ref fFI) = true)
    (lFI : K.lookup fFI = some ⟨ocFI, odFI, .func (PySem.W.fnOf "__init__" "Fault.__init__" (defArgs sFI) (defBody sFI) (defScope sFI) .none kVFI dcFI pmFI anFI cdFI ctFI), slFI⟩)
    (cFI : PySem.W.codeIn K cdFI "Fault.__init__" = true)
    (kFI : PySem.W.keepIn K (.ref fFI) = true)
    (aRI : PySem.W.findIn K (.ref CR) "__init__" = some (some (.ref fRI)))
    (iRI : PySem.W.isFn K (.ref fRI) = true)
    (lRI : K.lookup fRI = some ⟨ocRI, odRI, .func (PySem.W.fnOf "__init__" "Reader.__init__" (defArgs sRI) (defBody sRI) (defScope sRI) .none kVRI dcRI pmRI anRI cdRI ctRI), slRI⟩)
    (cRI : PySem.W.codeIn K cdRI "Reader.__init__" = true)
    (kRI : PySem.W.keepIn K (.ref fRI) = true)
    (aSB : PySem.W.findIn K (.ref CR) "see_byte" = some (some (.ref fSB)))
    (iSB : PySem.W.isFn K (.ref fSB) = true)
    (lSB : K.lookup fSB = some ⟨ocSB, odSB, .func (PySem.W.fnOf "see_byte" "Reader.see_byte" (defArgs sSB) (defBody sSB) (defScope sSB) .none kVSB dcSB pmSB anSB cdSB ctSB), slSB⟩)
    (cSB : PySem.W.codeIn K cdSB "Reader.see_byte" = true)
    (kSB : PySem.W.keepIn K (.ref fSB) = true)
    (aRB : PySem.W.findIn K (.ref CR) "read_byte" = some (some (.ref fRB)))
    (iRB : PySem.W.isFn K (.ref fRB) = true)
    (lRB : K.lookup fRB = some ⟨ocRB, odRB, .func (PySem.W.fnOf "read_byte" "Reader.read_byte" (defArgs sRB) (defBody sRB) (defScope sRB) .none kVRB dcRB pmRB anRB cdRB ctRB), slRB⟩)
    (cRB : PySem.W.codeIn K cdRB "Reader.read_byte" = true)
    (kRB : PySem.W.keepIn K (.ref fRB) = true)
    (aPB : PySem.W.findIn K (.ref CR) "pass_bytes" = some (some (.ref fPB)))
    (iPB : PySem.W.isFn K (.ref fPB) = true)
    (lPB : K.lookup fPB = some ⟨ocPB, odPB, .func (PySem.W.fnOf "pass_bytes" "Reader.pass_bytes" (defArgs sPB) (defBody sPB) (defScope sPB) .none kVPB dcPB pmPB anPB cdPB ctPB), slPB⟩)
    (cPB : PySem.W.codeIn K cdPB "Reader.pass_bytes" = true)
    (kPB : PySem.W.keepIn K (.ref fPB) = true)
    (aRV : PySem.W.findIn K (.ref CR) "read_varying" = some (some (.ref fRV)))
    (iRV : PySem.W.isFn K (.ref fRV) = true)
    (lRV : K.lookup fRV = some ⟨ocRV, odRV, .func (PySem.W.fnOf "read_varying" "Reader.read_varying" (defArgs sRV) (defBody sRV) (defScope sRV) .none kVRV dcRV pmRV anRV cdRV ctRV), slRV⟩)
    (cRV : PySem.W.codeIn K cdRV "Reader.read_varying" = true)
    (kRV : PySem.W.keepIn K (.ref fRV) = true)
    (aSL : PySem.W.nsIn K mainGlobals "scalar_length" = some (some (.ref fSL)))
    (lSL : K.lookup fSL = some ⟨ocSL, odSL, .func (PySem.W.fnOf "scalar_length" "scalar_length" (defArgs sSL) (defBody sSL) (defScope sSL) .none kVSL dcSL pmSL anSL cdSL ctSL), slSL⟩)
    (cSL : PySem.W.codeIn K cdSL "scalar_length" = true)
    (kSL : PySem.W.keepIn K (.ref fSL) = true)
    (aLS : PySem.W.nsIn K mainGlobals "lowest_second" = some (some (.ref fLS)))
    (lLS : K.lookup fLS = some ⟨ocLS, odLS, .func (PySem.W.fnOf "lowest_second" "lowest_second" (defArgs sLS) (defBody sLS) (defScope sLS) .none kVLS dcLS pmLS anLS cdLS ctLS), slLS⟩)
    (cLS : PySem.W.codeIn K cdLS "lowest_second" = true)
    (kLS : PySem.W.keepIn K (.ref fLS) = true)
    (aHS : PySem.W.nsIn K mainGlobals "highest_second" = some (some (.ref fHS)))
    (lHS : K.lookup fHS = some ⟨ocHS, odHS, .func (PySem.W.fnOf "highest_second" "highest_second" (defArgs sHS) (defBody sHS) (defScope sHS) .none kVHS dcHS pmHS anHS cdHS ctHS), slHS⟩)
    (cHS : PySem.W.codeIn K cdHS "highest_second" = true)
    (kHS : PySem.W.keepIn K (.ref fHS) = true)
    (aPS : PySem.W.nsIn K mainGlobals "pass_scalar" = some (some (.ref fPS)))
    (lPS : K.lookup fPS = some ⟨ocPS, odPS, .func (PySem.W.fnOf "pass_scalar" "pass_scalar" (defArgs sPS) (defBody sPS) (defScope sPS) .none kVPS dcPS pmPS anPS cdPS ctPS), slPS⟩)
    (cPS : PySem.W.codeIn K cdPS "pass_scalar" = true)
    (kPS : PySem.W.keepIn K (.ref fPS) = true)
    (aCU : PySem.W.nsIn K mainGlobals "check_utf8" = some (some (.ref fCU)))
    (lCU : K.lookup fCU = some ⟨ocCU, odCU, .func (PySem.W.fnOf "check_utf8" "check_utf8" (defArgs sCU) (defBody sCU) (defScope sCU) .none kVCU dcCU pmCU anCU cdCU ctCU), slCU⟩)
    (cCU : PySem.W.codeIn K cdCU "check_utf8" = true)
    (kCU : PySem.W.keepIn K (.ref fCU) = true)
    (aPN : PySem.W.nsIn K mainGlobals "pass_number" = some (some (.ref fPN)))
    (lPN : K.lookup fPN = some ⟨ocPN, odPN, .func (PySem.W.fnOf "pass_number" "pass_number" (defArgs sPN) (defBody sPN) (defScope sPN) .none kVPN dcPN pmPN anPN cdPN ctPN), slPN⟩)
    (cPN : PySem.W.codeIn K cdPN "pass_number" = true)
    (kPN : PySem.W.keepIn K (.ref fPN) = true)
    (aPR : PySem.W.nsIn K mainGlobals "pass_row" = some (some (.ref fPR)))
    (lPR : K.lookup fPR = some ⟨ocPR, odPR, .func (PySem.W.fnOf "pass_row" "pass_row" (defArgs sPR) (defBody sPR) (defScope sPR) .none kVPR dcPR pmPR anPR cdPR ctPR), slPR⟩)
    (cPR : PySem.W.codeIn K cdPR "pass_row" = true)
    (kPR : PySem.W.keepIn K (.ref fPR) = true)
    (aRN : PySem.W.nsIn K mainGlobals "read_name" = some (some (.ref fRN)))
    (lRN : K.lookup fRN = some ⟨ocRN, odRN, .func (PySem.W.fnOf "read_name" "read_name" (defArgs sRN) (defBody sRN) (defScope sRN) .none kVRN dcRN pmRN anRN cdRN ctRN), slRN⟩)
    (cRN : PySem.W.codeIn K cdRN "read_name" = true)
    (kRN : PySem.W.keepIn K (.ref fRN) = true)
    (aPI : PySem.W.findIn K (.ref CP) "__init__" = some (some (.ref fPI)))
    (iPI : PySem.W.isFn K (.ref fPI) = true)
    (lPI : K.lookup fPI = some ⟨ocPI, odPI, .func (PySem.W.fnOf "__init__" "Part.__init__" (defArgs sPI) (defBody sPI) (defScope sPI) .none kVPI dcPI pmPI anPI cdPI ctPI), slPI⟩)
    (cPI : PySem.W.codeIn K cdPI "Part.__init__" = true)
    (kPI : PySem.W.keepIn K (.ref fPI) = true)
    (aLM : PySem.W.nsIn K mainGlobals "lacks_members" = some (some (.ref fLM)))
    (lLM : K.lookup fLM = some ⟨ocLM, odLM, .func (PySem.W.fnOf "lacks_members" "lacks_members" (defArgs sLM) (defBody sLM) (defScope sLM) .none kVLM dcLM pmLM anLM cdLM ctLM), slLM⟩)
    (cLM : PySem.W.codeIn K cdLM "lacks_members" = true)
    (kLM : PySem.W.keepIn K (.ref fLM) = true)
    (aDP : PySem.W.nsIn K mainGlobals "deepen" = some (some (.ref fDP)))
    (lDP : K.lookup fDP = some ⟨ocDP, odDP, .func (PySem.W.fnOf "deepen" "deepen" (defArgs sDP) (defBody sDP) (defScope sDP) .none kVDP dcDP pmDP anDP cdDP ctDP), slDP⟩)
    (cDP : PySem.W.codeIn K cdDP "deepen" = true)
    (kDP : PySem.W.keepIn K (.ref fDP) = true)
    (aBM : PySem.W.nsIn K mainGlobals "begin_member" = some (some (.ref fBM)))
    (lBM : K.lookup fBM = some ⟨ocBM, odBM, .func (PySem.W.fnOf "begin_member" "begin_member" (defArgs sBM) (defBody sBM) (defScope sBM) .none kVBM dcBM pmBM anBM cdBM ctBM), slBM⟩)
    (cBM : PySem.W.codeIn K cdBM "begin_member" = true)
    (kBM : PySem.W.keepIn K (.ref fBM) = true)
    (aBP : PySem.W.nsIn K mainGlobals "begin_part" = some (some (.ref fBP)))
    (lBP : K.lookup fBP = some ⟨ocBP, odBP, .func (PySem.W.fnOf "begin_part" "begin_part" (defArgs sBP) (defBody sBP) (defScope sBP) .none kVBP dcBP pmBP anBP cdBP ctBP), slBP⟩)
    (cBP : PySem.W.codeIn K cdBP "begin_part" = true)
    (kBP : PySem.W.keepIn K (.ref fBP) = true)
    (aRW : PySem.W.nsIn K mainGlobals "read_whole" = some (some (.ref fRW)))
    (lRW : K.lookup fRW = some ⟨ocRW, odRW, .func (PySem.W.fnOf "read_whole" "read_whole" (defArgs sRW) (defBody sRW) (defScope sRW) .none kVRW dcRW pmRW anRW cdRW ctRW), slRW⟩)
    (cRW : PySem.W.codeIn K cdRW "read_whole" = true)
    (kRW : PySem.W.keepIn K (.ref fRW) = true)
    (aUI : PySem.W.findIn K (.ref CZ) "__init__" = some (some (.ref fUI)))
    (iUI : PySem.W.isFn K (.ref fUI) = true)
    (lUI : K.lookup fUI = some ⟨ocUI, odUI, .func (PySem.W.fnOf "__init__" "Refusal.__init__" (defArgs sUI) (defBody sUI) (defScope sUI) .none kVUI dcUI pmUI anUI cdUI ctUI), slUI⟩)
    (cUI : PySem.W.codeIn K cdUI "Refusal.__init__" = true)
    (kUI : PySem.W.keepIn K (.ref fUI) = true)
    (aU5 : PySem.W.findIn K (.ref C5) "__init__" = some (some (.ref fU5)))
    (iU5 : PySem.W.isFn K (.ref fU5) = true)
    (lU5 : K.lookup fU5 = some ⟨ocU5, odU5, .func (PySem.W.fnOf "__init__" "NoNumber.__init__" (defArgs sU5) (defBody sU5) (defScope sU5) .none kVU5 dcU5 pmU5 anU5 cdU5 ctU5), slU5⟩)
    (cU5 : PySem.W.codeIn K cdU5 "NoNumber.__init__" = true)
    (kU5 : PySem.W.keepIn K (.ref fU5) = true)
    (aU4 : PySem.W.findIn K (.ref C4) "__init__" = some (some (.ref fU4)))
    (iU4 : PySem.W.isFn K (.ref fU4) = true)
    (lU4 : K.lookup fU4 = some ⟨ocU4, odU4, .func (PySem.W.fnOf "__init__" "NoResult.__init__" (defArgs sU4) (defBody sU4) (defScope sU4) .none kVU4 dcU4 pmU4 anU4 cdU4 ctU4), slU4⟩)
    (cU4 : PySem.W.codeIn K cdU4 "NoResult.__init__" = true)
    (kU4 : PySem.W.keepIn K (.ref fU4) = true)
    (aU9 : PySem.W.findIn K (.ref C9) "__init__" = some (some (.ref fU9)))
    (iU9 : PySem.W.isFn K (.ref fU9) = true)
    (lU9 : K.lookup fU9 = some ⟨ocU9, odU9, .func (PySem.W.fnOf "__init__" "OutOfRange.__init__" (defArgs sU9) (defBody sU9) (defScope sU9) .none kVU9 dcU9 pmU9 anU9 cdU9 ctU9), slU9⟩)
    (cU9 : PySem.W.codeIn K cdU9 "OutOfRange.__init__" = true)
    (kU9 : PySem.W.keepIn K (.ref fU9) = true)
    (aIB : PySem.W.nsIn K mainGlobals "inner_bytes" = some (some (.ref fIB)))
    (lIB : K.lookup fIB = some ⟨ocIB, odIB, .func (PySem.W.fnOf "inner_bytes" "inner_bytes" (defArgs sIB) (defBody sIB) (defScope sIB) .none kVIB dcIB pmIB anIB cdIB ctIB), slIB⟩)
    (cIB : PySem.W.codeIn K cdIB "inner_bytes" = true)
    (kIB : PySem.W.keepIn K (.ref fIB) = true)
    (aAO : PySem.W.nsIn K mainGlobals "amount_of" = some (some (.ref fAO)))
    (lAO : K.lookup fAO = some ⟨ocAO, odAO, .func (PySem.W.fnOf "amount_of" "amount_of" (defArgs sAO) (defBody sAO) (defScope sAO) .none kVAO dcAO pmAO anAO cdAO ctAO), slAO⟩)
    (cAO : PySem.W.codeIn K cdAO "amount_of" = true)
    (kAO : PySem.W.keepIn K (.ref fAO) = true)
    (aNO : PySem.W.nsIn K mainGlobals "number_of" = some (some (.ref fNO)))
    (lNO : K.lookup fNO = some ⟨ocNO, odNO, .func (PySem.W.fnOf "number_of" "number_of" (defArgs sNO) (defBody sNO) (defScope sNO) .none kVNO dcNO pmNO anNO cdNO ctNO), slNO⟩)
    (cNO : PySem.W.codeIn K cdNO "number_of" = true)
    (kNO : PySem.W.keepIn K (.ref fNO) = true)
    (aVR : PySem.W.nsIn K mainGlobals "vary_row" = some (some (.ref fVR)))
    (lVR : K.lookup fVR = some ⟨ocVR, odVR, .func (PySem.W.fnOf "vary_row" "vary_row" (defArgs sVR) (defBody sVR) (defScope sVR) .none kVVR dcVR pmVR anVR cdVR ctVR), slVR⟩)
    (cVR : PySem.W.codeIn K cdVR "vary_row" = true)
    (kVR : PySem.W.keepIn K (.ref fVR) = true)
    (aAR : PySem.W.nsIn K mainGlobals "amount_row" = some (some (.ref fAR)))
    (lAR : K.lookup fAR = some ⟨ocAR, odAR, .func (PySem.W.fnOf "amount_row" "amount_row" (defArgs sAR) (defBody sAR) (defScope sAR) .none kVAR dcAR pmAR anAR cdAR ctAR), slAR⟩)
    (cAR : PySem.W.codeIn K cdAR "amount_row" = true)
    (kAR : PySem.W.keepIn K (.ref fAR) = true)
    (aNR : PySem.W.nsIn K mainGlobals "number_row" = some (some (.ref fNR)))
    (lNR : K.lookup fNR = some ⟨ocNR, odNR, .func (PySem.W.fnOf "number_row" "number_row" (defArgs sNR) (defBody sNR) (defScope sNR) .none kVNR dcNR pmNR anNR cdNR ctNR), slNR⟩)
    (cNR : PySem.W.codeIn K cdNR "number_row" = true)
    (kNR : PySem.W.keepIn K (.ref fNR) = true)
    (aIR : PySem.W.nsIn K mainGlobals "is_in_range" = some (some (.ref fIR)))
    (lIR : K.lookup fIR = some ⟨ocIR, odIR, .func (PySem.W.fnOf "is_in_range" "is_in_range" (defArgs sIR) (defBody sIR) (defScope sIR) .none kVIR dcIR pmIR anIR cdIR ctIR), slIR⟩)
    (cIR : PySem.W.codeIn K cdIR "is_in_range" = true)
    (kIR : PySem.W.keepIn K (.ref fIR) = true)
    (aIO : PySem.W.nsIn K mainGlobals "is_operation" = some (some (.ref fIO)))
    (lIO : K.lookup fIO = some ⟨ocIO, odIO, .func (PySem.W.fnOf "is_operation" "is_operation" (defArgs sIO) (defBody sIO) (defScope sIO) .none kVIO dcIO pmIO anIO cdIO ctIO), slIO⟩)
    (cIO : PySem.W.codeIn K cdIO "is_operation" = true)
    (kIO : PySem.W.keepIn K (.ref fIO) = true)
    (aND : PySem.W.nsIn K mainGlobals "need_number" = some (some (.ref fND)))
    (lND : K.lookup fND = some ⟨ocND, odND, .func (PySem.W.fnOf "need_number" "need_number" (defArgs sND) (defBody sND) (defScope sND) .none kVND dcND pmND anND cdND ctND), slND⟩)
    (cND : PySem.W.codeIn K cdND "need_number" = true)
    (kND : PySem.W.keepIn K (.ref fND) = true)
    (aRK : PySem.W.nsIn K mainGlobals "reckon" = some (some (.ref fRK)))
    (lRK : K.lookup fRK = some ⟨ocRK, odRK, .func (PySem.W.fnOf "reckon" "reckon" (defArgs sRK) (defBody sRK) (defScope sRK) .none kVRK dcRK pmRK anRK cdRK ctRK), slRK⟩)
    (cRK : PySem.W.codeIn K cdRK "reckon" = true)
    (kRK : PySem.W.keepIn K (.ref fRK) = true)
    (aLR : PySem.W.nsIn K mainGlobals "lacks_result" = some (some (.ref fLR)))
    (lLR : K.lookup fLR = some ⟨ocLR, odLR, .func (PySem.W.fnOf "lacks_result" "lacks_result" (defArgs sLR) (defBody sLR) (defScope sLR) .none kVLR dcLR pmLR anLR cdLR ctLR), slLR⟩)
    (cLR : PySem.W.codeIn K cdLR "lacks_result" = true)
    (kLR : PySem.W.keepIn K (.ref fLR) = true)
    (aRO : PySem.W.nsIn K mainGlobals "reckon_out" = some (some (.ref fRO)))
    (lRO : K.lookup fRO = some ⟨ocRO, odRO, .func (PySem.W.fnOf "reckon_out" "reckon_out" (defArgs sRO) (defBody sRO) (defScope sRO) .none kVRO dcRO pmRO anRO cdRO ctRO), slRO⟩)
    (cRO : PySem.W.codeIn K cdRO "reckon_out" = true)
    (kRO : PySem.W.keepIn K (.ref fRO) = true)
    (aPO : PySem.W.nsIn K mainGlobals "power_of" = some (some (.ref fPO)))
    (lPO : K.lookup fPO = some ⟨ocPO, odPO, .func (PySem.W.fnOf "power_of" "power_of" (defArgs sPO) (defBody sPO) (defScope sPO) .none kVPO dcPO pmPO anPO cdPO ctPO), slPO⟩)
    (cPO : PySem.W.codeIn K cdPO "power_of" = true)
    (kPO : PySem.W.keepIn K (.ref fPO) = true)
    (aRT : PySem.W.nsIn K mainGlobals "root_of" = some (some (.ref fRT)))
    (lRT : K.lookup fRT = some ⟨ocRT, odRT, .func (PySem.W.fnOf "root_of" "root_of" (defArgs sRT) (defBody sRT) (defScope sRT) .none kVRT dcRT pmRT anRT cdRT ctRT), slRT⟩)
    (cRT : PySem.W.codeIn K cdRT "root_of" = true)
    (kRT : PySem.W.keepIn K (.ref fRT) = true)
    (aDV : PySem.W.nsIn K mainGlobals "divisor_of" = some (some (.ref fDV)))
    (lDV : K.lookup fDV = some ⟨ocDV, odDV, .func (PySem.W.fnOf "divisor_of" "divisor_of" (defArgs sDV) (defBody sDV) (defScope sDV) .none kVDV dcDV pmDV anDV cdDV ctDV), slDV⟩)
    (cDV : PySem.W.codeIn K cdDV "divisor_of" = true)
    (kDV : PySem.W.keepIn K (.ref fDV) = true)
    (aEN : PySem.W.nsIn K mainGlobals "number" = some (some (.ref fEN)))
    (lEN : K.lookup fEN = some ⟨ocEN, odEN, .func (PySem.W.fnOf "number" "number" (defArgs sNM) (defBody sNM) (defScope sNM) .none kVEN dcEN pmEN anEN cdEN ctEN), slEN⟩)
    (cEN : PySem.W.codeIn K cdEN "number" = true)
    (kEN : PySem.W.keepIn K (.ref fEN) = true)
    (gENDS_TOO_SOON : PySem.W.nsIn K mainGlobals "ENDS_TOO_SOON" = some (some (.int (1) tENDS_TOO_SOON)))
    (gWRONG_VARYING : PySem.W.nsIn K mainGlobals "WRONG_VARYING" = some (some (.int (3) tWRONG_VARYING)))
    (gMOST_VARYING_BYTES : PySem.W.nsIn K mainGlobals "MOST_VARYING_BYTES" = some (some (.int (5) tMOST_VARYING_BYTES)))
    (gHIGHEST_VARYING : PySem.W.nsIn K mainGlobals "HIGHEST_VARYING" = some (some (.int (4294967295) tHIGHEST_VARYING)))
    (gLOWEST_FURTHER : PySem.W.nsIn K mainGlobals "LOWEST_FURTHER" = some (some (.int (128) tLOWEST_FURTHER)))
    (gHIGHEST_FURTHER : PySem.W.nsIn K mainGlobals "HIGHEST_FURTHER" = some (some (.int (191) tHIGHEST_FURTHER)))
    (gWRONG_UTF8 : PySem.W.nsIn K mainGlobals "WRONG_UTF8" = some (some (.int (5) tWRONG_UTF8)))
    (gLONGEST_NUMBER : PySem.W.nsIn K mainGlobals "LONGEST_NUMBER" = some (some (.int (4096) tLONGEST_NUMBER)))
    (gWRONG_NUMBER : PySem.W.nsIn K mainGlobals "WRONG_NUMBER" = some (some (.int (4) tWRONG_NUMBER)))
    (gTEXT : PySem.W.nsIn K mainGlobals "TEXT" = some (some (.int (4) tTEXT)))
    (gLONGEST_NAME : PySem.W.nsIn K mainGlobals "LONGEST_NAME" = some (some (.int (255) tLONGEST_NAME)))
    (gWRONG_NAME : PySem.W.nsIn K mainGlobals "WRONG_NAME" = some (some (.int (6) tWRONG_NAME)))
    (gNUMBER : PySem.W.nsIn K mainGlobals "NUMBER" = some (some (.int (2) tNUMBER)))
    (gBYTES : PySem.W.nsIn K mainGlobals "BYTES" = some (some (.int (3) tBYTES)))
    (gLIST : PySem.W.nsIn K mainGlobals "LIST" = some (some (.int (5) tLIST)))
    (gRECORD : PySem.W.nsIn K mainGlobals "RECORD" = some (some (.int (6) tRECORD)))
    (gMOMENT : PySem.W.nsIn K mainGlobals "MOMENT" = some (some (.int (7) tMOMENT)))
    (gIDENTITY : PySem.W.nsIn K mainGlobals "IDENTITY" = some (some (.int (8) tIDENTITY)))
    (gLAST_KIND : PySem.W.nsIn K mainGlobals "LAST_KIND" = some (some (.int (8) tLAST_KIND)))
    (gDEEPEST : PySem.W.nsIn K mainGlobals "DEEPEST" = some (some (.int (64) tDEEPEST)))
    (gMOMENT_LENGTH : PySem.W.nsIn K mainGlobals "MOMENT_LENGTH" = some (some (.int (8) tMOMENT_LENGTH)))
    (gIDENTITY_LENGTH : PySem.W.nsIn K mainGlobals "IDENTITY_LENGTH" = some (some (.int (32) tIDENTITY_LENGTH)))
    (gWRONG_KIND : PySem.W.nsIn K mainGlobals "WRONG_KIND" = some (some (.int (2) tWRONG_KIND)))
    (gTOO_DEEP : PySem.W.nsIn K mainGlobals "TOO_DEEP" = some (some (.int (7) tTOO_DEEP)))
    (gBYTES_BEHIND : PySem.W.nsIn K mainGlobals "BYTES_BEHIND" = some (some (.int (8) tBYTES_BEHIND)))
    (gSUM : PySem.W.nsIn K mainGlobals "SUM" = some (some (.int (0) tSUM)))
    (gDIFFERENCE : PySem.W.nsIn K mainGlobals "DIFFERENCE" = some (some (.int (1) tDIFFERENCE)))
    (gPRODUCT : PySem.W.nsIn K mainGlobals "PRODUCT" = some (some (.int (2) tPRODUCT)))
    (gQUOTIENT : PySem.W.nsIn K mainGlobals "QUOTIENT" = some (some (.int (3) tQUOTIENT)))
    (gLEFT_OVER : PySem.W.nsIn K mainGlobals "LEFT_OVER" = some (some (.int (4) tLEFT_OVER)))
    (gLESSER : PySem.W.nsIn K mainGlobals "LESSER" = some (some (.int (5) tLESSER)))
    (gGREATER : PySem.W.nsIn K mainGlobals "GREATER" = some (some (.int (6) tGREATER)))
    (gPOWER : PySem.W.nsIn K mainGlobals "POWER" = some (some (.int (7) tPOWER)))
    (gROOT : PySem.W.nsIn K mainGlobals "ROOT" = some (some (.int (8) tROOT)))
    (gDIVISOR : PySem.W.nsIn K mainGlobals "DIVISOR" = some (some (.int (9) tDIVISOR)))
    (zlen : PySem.W.nsIn K mainGlobals "len" = some none)
    (zrange : PySem.W.nsIn K mainGlobals "range" = some none)
    (zmax : PySem.W.nsIn K mainGlobals "max" = some none)
    (zmin : PySem.W.nsIn K mainGlobals "min" = some none)
    (zreversed : PySem.W.nsIn K mainGlobals "reversed" = some none)
    (zabs : PySem.W.nsIn K mainGlobals "abs" = some none)
    (lU : K.lookup CZ = some ⟨ocU, odU, .cls cdU, slU⟩)
    (rdU : PySem.W.readsIn K CZ (.type "type") = true)
    (fcU : PySem.W.findCls K (.ref CZ) (.type "type") "__init__" = some (.val (.ref fUI)))
    (sgU : PySem.W.specialIn K (.ref CZ) "__getattribute__" = some (some (.builtin "type.__getattribute__")))
    (sbF : PySem.W.subIn K (.ref CF) (.type "BaseException") = some true)
    (sbU : PySem.W.subIn K (.ref CZ) (.type "BaseException") = some true)
    (tyF : PySem.W.typeIn K (.ref CF) = some (.type "type"))
    (tyU : PySem.W.typeIn K (.ref CZ) = some (.type "type"))
    (lC5 : K.lookup C5 = some (excClassObj nmC5 qC5 C5 NC5 bsC5 (bmU CZ) true snC5 subC5 abC5 colC5 ddC5 k0C5 k1C5 k2C5 k3C5 k5C5 "Exception.__new__"))
    (kcC5 : PySem.W.keepIn K (.ref C5) = true)
    (saC5 : PySem.W.findIn K (.ref C5) "__setattr__" = some (some (.builtin "object.__setattr__")))
    (gaC5 : PySem.W.findIn K (.ref C5) "__getattribute__" = some (some (.builtin "BaseException.__getattribute__")))
    (grC5 : PySem.W.findIn K (.ref C5) "__getattr__" = some none)
    (anC5 : PySem.W.findIn K (.ref C5) "answer" = some none)
    (sfC5 : PySem.W.subIn K (.ref C5) (.ref CF) = some false)
    (suC5 : PySem.W.subIn K (.ref C5) (.ref CZ) = some true)
    (lC4 : K.lookup C4 = some (excClassObj nmC4 qC4 C4 NC4 bsC4 (bmU CZ) true snC4 subC4 abC4 colC4 ddC4 k0C4 k1C4 k2C4 k3C4 k5C4 "Exception.__new__"))
    (kcC4 : PySem.W.keepIn K (.ref C4) = true)
    (saC4 : PySem.W.findIn K (.ref C4) "__setattr__" = some (some (.builtin "object.__setattr__")))
    (gaC4 : PySem.W.findIn K (.ref C4) "__getattribute__" = some (some (.builtin "BaseException.__getattribute__")))
    (grC4 : PySem.W.findIn K (.ref C4) "__getattr__" = some none)
    (anC4 : PySem.W.findIn K (.ref C4) "answer" = some none)
    (sfC4 : PySem.W.subIn K (.ref C4) (.ref CF) = some false)
    (suC4 : PySem.W.subIn K (.ref C4) (.ref CZ) = some true)
    (lC9 : K.lookup C9 = some (excClassObj nmC9 qC9 C9 NC9 bsC9 (bmU CZ) true snC9 subC9 abC9 colC9 ddC9 k0C9 k1C9 k2C9 k3C9 k5C9 "Exception.__new__"))
    (kcC9 : PySem.W.keepIn K (.ref C9) = true)
    (saC9 : PySem.W.findIn K (.ref C9) "__setattr__" = some (some (.builtin "object.__setattr__")))
    (gaC9 : PySem.W.findIn K (.ref C9) "__getattribute__" = some (some (.builtin "BaseException.__getattribute__")))
    (grC9 : PySem.W.findIn K (.ref C9) "__getattr__" = some none)
    (anC9 : PySem.W.findIn K (.ref C9) "answer" = some none)
    (sfC9 : PySem.W.subIn K (.ref C9) (.ref CF) = some false)
    (suC9 : PySem.W.subIn K (.ref C9) (.ref CZ) = some true)
    (ht : P.given.tree = none)
    : ∃ fd : FuncData, (∀ (s : Shared) (us : List Value), us.length = (["op", "a", "b"] : List Str).length → BindsTo s fd ⟨us, []⟩ ((["op", "a", "b"] : List Str).zip us)) ∧ ∀ base : Heap, K.In base → base.Ns mainGlobals mg → FnOk P w K mg base CX0 40 fa fd ["op", "a", "b"] (spNM K) := by
  have e := hfa.symm.trans (PySem.W.mg_of X G aEN)
  cases e
  have xc : XCls K CF fFI := ⟨⟨nm, q, N, bs, sn, sub, ab, col, dd, k0, k1, k2, k3, k5, oN, lCF, lN, okN, xI, xS, xG, xH, xK, xP⟩, iFI, kCF⟩
  have T : TxR K mg CF CR fFI := ⟨xc, ⟨pgCR, hdCR, poCR, saCR⟩, nCR_row, nCR_place, PySem.W.mg_of X G aCF, (PySem.W.ns_none_of X G zlen), (PySem.W.ns_none_of X G zrange), ⟨tENDS_TOO_SOON, PySem.W.mg_of X G gENDS_TOO_SOON⟩, ⟨tWRONG_VARYING, PySem.W.mg_of X G gWRONG_VARYING⟩, ⟨tMOST_VARYING_BYTES, PySem.W.mg_of X G gMOST_VARYING_BYTES⟩, ⟨tHIGHEST_VARYING, PySem.W.mg_of X G gHIGHEST_VARYING⟩⟩
  have U : TxU mg := ⟨⟨tLOWEST_FURTHER, PySem.W.mg_of X G gLOWEST_FURTHER⟩, ⟨tHIGHEST_FURTHER, PySem.W.mg_of X G gHIGHEST_FURTHER⟩, ⟨tWRONG_UTF8, PySem.W.mg_of X G gWRONG_UTF8⟩, (PySem.W.ns_none_of X G zmin)⟩
  have NN : TxN mg := ⟨⟨tLONGEST_NUMBER, PySem.W.mg_of X G gLONGEST_NUMBER⟩, ⟨tWRONG_NUMBER, PySem.W.mg_of X G gWRONG_NUMBER⟩, ⟨tTEXT, PySem.W.mg_of X G gTEXT⟩⟩
  have TP : TxP K mg CP := ⟨⟨pgCP, hdCP, poCP, saCP⟩, nCP_kind, nCP_place, nCP_inside, nCP_end, nCP_size, nCP_depth, nCP_name_place, nCP_name, nCP_members, ⟨tLONGEST_NAME, PySem.W.mg_of X G gLONGEST_NAME⟩, ⟨tWRONG_NAME, PySem.W.mg_of X G gWRONG_NAME⟩⟩
  have B : TxB mg CP := ⟨PySem.W.mg_of X G aCP, (PySem.W.ns_none_of X G zmax), ⟨tNUMBER, PySem.W.mg_of X G gNUMBER⟩, ⟨tBYTES, PySem.W.mg_of X G gBYTES⟩, ⟨tTEXT, PySem.W.mg_of X G gTEXT⟩, ⟨tLIST, PySem.W.mg_of X G gLIST⟩, ⟨tRECORD, PySem.W.mg_of X G gRECORD⟩, ⟨tMOMENT, PySem.W.mg_of X G gMOMENT⟩, ⟨tIDENTITY, PySem.W.mg_of X G gIDENTITY⟩, ⟨tLAST_KIND, PySem.W.mg_of X G gLAST_KIND⟩, ⟨tDEEPEST, PySem.W.mg_of X G gDEEPEST⟩, ⟨tMOMENT_LENGTH, PySem.W.mg_of X G gMOMENT_LENGTH⟩, ⟨tIDENTITY_LENGTH, PySem.W.mg_of X G gIDENTITY_LENGTH⟩, ⟨tWRONG_KIND, PySem.W.mg_of X G gWRONG_KIND⟩, ⟨tTOO_DEEP, PySem.W.mg_of X G gTOO_DEEP⟩⟩
  have cU : ClsFn K CZ "__init__" fUI := ⟨rdU, fcU, sgU, kUI⟩
  have mU := PySem.W.mg_of X G aU
  have ucC5 : UCls K CZ C5 fU5 := ⟨⟨nmC5, qC5, NC5, bsC5, snC5, subC5, abC5, colC5, ddC5, k0C5, k1C5, k2C5, k3C5, k5C5, lC5⟩, aU5, iU5, kcC5, saC5, gaC5, grC5, anC5⟩
  have sbC5 : Sub2 K CF CZ C5 := ⟨exm_mk sbF lCF tyF sfC5, exm_mk sbU lU tyU suC5⟩
  have mC5 := PySem.W.mg_of X G aC5
  have ucC4 : UCls K CZ C4 fU4 := ⟨⟨nmC4, qC4, NC4, bsC4, snC4, subC4, abC4, colC4, ddC4, k0C4, k1C4, k2C4, k3C4, k5C4, lC4⟩, aU4, iU4, kcC4, saC4, gaC4, grC4, anC4⟩
  have sbC4 : Sub2 K CF CZ C4 := ⟨exm_mk sbF lCF tyF sfC4, exm_mk sbU lU tyU suC4⟩
  have mC4 := PySem.W.mg_of X G aC4
  have ucC9 : UCls K CZ C9 fU9 := ⟨⟨nmC9, qC9, NC9, bsC9, snC9, subC9, abC9, colC9, ddC9, k0C9, k1C9, k2C9, k3C9, k5C9, lC9⟩, aU9, iU9, kcC9, saC9, gaC9, grC9, anC9⟩
  have sbC9 : Sub2 K CF CZ C9 := ⟨exm_mk sbF lCF tyF sfC9, exm_mk sbU lU tyU suC9⟩
  have mC9 := PySem.W.mg_of X G aC9
  have O : TxO mg := ⟨⟨tSUM, PySem.W.mg_of X G gSUM⟩, ⟨tDIFFERENCE, PySem.W.mg_of X G gDIFFERENCE⟩, ⟨tPRODUCT, PySem.W.mg_of X G gPRODUCT⟩, ⟨tQUOTIENT, PySem.W.mg_of X G gQUOTIENT⟩, ⟨tLEFT_OVER, PySem.W.mg_of X G gLEFT_OVER⟩, ⟨tLESSER, PySem.W.mg_of X G gLESSER⟩, ⟨tGREATER, PySem.W.mg_of X G gGREATER⟩, ⟨tPOWER, PySem.W.mg_of X G gPOWER⟩, ⟨tROOT, PySem.W.mg_of X G gROOT⟩, ⟨tDIVISOR, PySem.W.mg_of X G gDIVISOR⟩, (PySem.W.ns_none_of X G zmin), (PySem.W.ns_none_of X G zmax)⟩
  have FFI := fun_mk (st := sFI) lFI cFI kFI
  have bFI := FFI.binds (ps := ["self", "kind", "place"]) fun _ _ _ _ _ _ us hl => by obtain ⟨_, _, _, rfl⟩ := L2.J.ln3 hl; rfl
  have FRI := fun_mk (st := sRI) lRI cRI kRI
  have bRI := FRI.binds (ps := ["self", "row"]) fun _ _ _ _ _ _ us hl => by obtain ⟨_, _, rfl⟩ := L2.J.ln2 hl; rfl
  have FSB := fun_mk (st := sSB) lSB cSB kSB
  have bSB := FSB.binds (ps := ["self"]) fun _ _ _ _ _ _ us hl => by obtain ⟨_, rfl⟩ := L2.J.ln1 hl; rfl
  have FRB := fun_mk (st := sRB) lRB cRB kRB
  have bRB := FRB.binds (ps := ["self"]) fun _ _ _ _ _ _ us hl => by obtain ⟨_, rfl⟩ := L2.J.ln1 hl; rfl
  have FPB := fun_mk (st := sPB) lPB cPB kPB
  have bPB := FPB.binds (ps := ["self", "how_many"]) fun _ _ _ _ _ _ us hl => by obtain ⟨_, _, rfl⟩ := L2.J.ln2 hl; rfl
  have FRV := fun_mk (st := sRV) lRV cRV kRV
  have bRV := FRV.binds (ps := ["self"]) fun _ _ _ _ _ _ us hl => by obtain ⟨_, rfl⟩ := L2.J.ln1 hl; rfl
  have FSL := fun_mk (st := sSL) lSL cSL kSL
  have bSL := FSL.binds (ps := ["first"]) fun _ _ _ _ _ _ us hl => by obtain ⟨_, rfl⟩ := L2.J.ln1 hl; rfl
  have mSL := PySem.W.mg_of X G aSL
  have FLS := fun_mk (st := sLS) lLS cLS kLS
  have bLS := FLS.binds (ps := ["first"]) fun _ _ _ _ _ _ us hl => by obtain ⟨_, rfl⟩ := L2.J.ln1 hl; rfl
  have mLS := PySem.W.mg_of X G aLS
  have FHS := fun_mk (st := sHS) lHS cHS kHS
  have bHS := FHS.binds (ps := ["first"]) fun _ _ _ _ _ _ us hl => by obtain ⟨_, rfl⟩ := L2.J.ln1 hl; rfl
  have mHS := PySem.W.mg_of X G aHS
  have FPS := fun_mk (st := sPS) lPS cPS kPS
  have bPS := FPS.binds (ps := ["row", "place", "end"]) fun _ _ _ _ _ _ us hl => by obtain ⟨_, _, _, rfl⟩ := L2.J.ln3 hl; rfl
  have mPS := PySem.W.mg_of X G aPS
  have FCU := fun_mk (st := sCU) lCU cCU kCU
  have bCU := FCU.binds (ps := ["row", "start", "end"]) fun _ _ _ _ _ _ us hl => by obtain ⟨_, _, _, rfl⟩ := L2.J.ln3 hl; rfl
  have mCU := PySem.W.mg_of X G aCU
  have FPN := fun_mk (st := sPN) lPN cPN kPN
  have bPN := FPN.binds (ps := ["reader", "part"]) fun _ _ _ _ _ _ us hl => by obtain ⟨_, _, rfl⟩ := L2.J.ln2 hl; rfl
  have mPN := PySem.W.mg_of X G aPN
  have FPR := fun_mk (st := sPR) lPR cPR kPR
  have bPR := FPR.binds (ps := ["reader", "part"]) fun _ _ _ _ _ _ us hl => by obtain ⟨_, _, rfl⟩ := L2.J.ln2 hl; rfl
  have mPR := PySem.W.mg_of X G aPR
  have FRN := fun_mk (st := sRN) lRN cRN kRN
  have bRN := FRN.binds (ps := ["reader", "holder"]) fun _ _ _ _ _ _ us hl => by obtain ⟨_, _, rfl⟩ := L2.J.ln2 hl; rfl
  have mRN := PySem.W.mg_of X G aRN
  have FPI := fun_mk (st := sPI) lPI cPI kPI
  have bPI := FPI.binds (ps := ["self", "kind", "place"]) fun _ _ _ _ _ _ us hl => by obtain ⟨_, _, _, rfl⟩ := L2.J.ln3 hl; rfl
  have FLM := fun_mk (st := sLM) lLM cLM kLM
  have bLM := FLM.binds (ps := ["part"]) fun _ _ _ _ _ _ us hl => by obtain ⟨_, rfl⟩ := L2.J.ln1 hl; rfl
  have mLM := PySem.W.mg_of X G aLM
  have FDP := fun_mk (st := sDP) lDP cDP kDP
  have bDP := FDP.binds (ps := ["holder", "part"]) fun _ _ _ _ _ _ us hl => by obtain ⟨_, _, rfl⟩ := L2.J.ln2 hl; rfl
  have mDP := PySem.W.mg_of X G aDP
  have FBM := fun_mk (st := sBM) lBM cBM kBM
  have bBM := FBM.binds (ps := ["reader", "holder", "level"]) fun _ _ _ _ _ _ us hl => by obtain ⟨_, _, _, rfl⟩ := L2.J.ln3 hl; rfl
  have mBM := PySem.W.mg_of X G aBM
  have FBP := fun_mk (st := sBP) lBP cBP kBP
  have bBP := FBP.binds (ps := ["reader", "level"]) fun _ _ _ _ _ _ us hl => by obtain ⟨_, _, rfl⟩ := L2.J.ln2 hl; rfl
  have mBP := PySem.W.mg_of X G aBP
  have FRW := fun_mk (st := sRW) lRW cRW kRW
  have bRW := FRW.binds (ps := ["row"]) fun _ _ _ _ _ _ us hl => by obtain ⟨_, rfl⟩ := L2.J.ln1 hl; rfl
  have mRW := PySem.W.mg_of X G aRW
  have FUI := fun_mk (st := sUI) lUI cUI kUI
  have bUI := FUI.binds (ps := ["self", "answer"]) fun _ _ _ _ _ _ us hl => by obtain ⟨_, _, rfl⟩ := L2.J.ln2 hl; rfl
  have FU5 := fun_mk (st := sU5) lU5 cU5 kU5
  have bU5 := FU5.binds (ps := ["self"]) fun _ _ _ _ _ _ us hl => by obtain ⟨_, rfl⟩ := L2.J.ln1 hl; rfl
  have FU4 := fun_mk (st := sU4) lU4 cU4 kU4
  have bU4 := FU4.binds (ps := ["self"]) fun _ _ _ _ _ _ us hl => by obtain ⟨_, rfl⟩ := L2.J.ln1 hl; rfl
  have FU9 := fun_mk (st := sU9) lU9 cU9 kU9
  have bU9 := FU9.binds (ps := ["self"]) fun _ _ _ _ _ _ us hl => by obtain ⟨_, rfl⟩ := L2.J.ln1 hl; rfl
  have FIB := fun_mk (st := sIB) lIB cIB kIB
  have bIB := FIB.binds (ps := ["row", "part"]) fun _ _ _ _ _ _ us hl => by obtain ⟨_, _, rfl⟩ := L2.J.ln2 hl; rfl
  have mIB := PySem.W.mg_of X G aIB
  have FAO := fun_mk (st := sAO) lAO cAO kAO
  have bAO := FAO.binds (ps := ["row"]) fun _ _ _ _ _ _ us hl => by obtain ⟨_, rfl⟩ := L2.J.ln1 hl; rfl
  have mAO := PySem.W.mg_of X G aAO
  have FNO := fun_mk (st := sNO) lNO cNO kNO
  have bNO := FNO.binds (ps := ["row", "part"]) fun _ _ _ _ _ _ us hl => by obtain ⟨_, _, rfl⟩ := L2.J.ln2 hl; rfl
  have mNO := PySem.W.mg_of X G aNO
  have FVR := fun_mk (st := sVR) lVR cVR kVR
  have bVR := FVR.binds (ps := ["amount"]) fun _ _ _ _ _ _ us hl => by obtain ⟨_, rfl⟩ := L2.J.ln1 hl; rfl
  have mVR := PySem.W.mg_of X G aVR
  have FAR := fun_mk (st := sAR) lAR cAR kAR
  have bAR := FAR.binds (ps := ["amount"]) fun _ _ _ _ _ _ us hl => by obtain ⟨_, rfl⟩ := L2.J.ln1 hl; rfl
  have mAR := PySem.W.mg_of X G aAR
  have FNR := fun_mk (st := sNR) lNR cNR kNR
  have bNR := FNR.binds (ps := ["number"]) fun _ _ _ _ _ _ us hl => by obtain ⟨_, rfl⟩ := L2.J.ln1 hl; rfl
  have mNR := PySem.W.mg_of X G aNR
  have FIR := fun_mk (st := sIR) lIR cIR kIR
  have bIR := FIR.binds (ps := ["number"]) fun _ _ _ _ _ _ us hl => by obtain ⟨_, rfl⟩ := L2.J.ln1 hl; rfl
  have mIR := PySem.W.mg_of X G aIR
  have FIO := fun_mk (st := sIO) lIO cIO kIO
  have bIO := FIO.binds (ps := ["op"]) fun _ _ _ _ _ _ us hl => by obtain ⟨_, rfl⟩ := L2.J.ln1 hl; rfl
  have mIO := PySem.W.mg_of X G aIO
  have FND := fun_mk (st := sND) lND cND kND
  have bND := FND.binds (ps := ["row", "whole"]) fun _ _ _ _ _ _ us hl => by obtain ⟨_, _, rfl⟩ := L2.J.ln2 hl; rfl
  have mND := PySem.W.mg_of X G aND
  have FRK := fun_mk (st := sRK) lRK cRK kRK
  have bRK := FRK.binds (ps := ["op", "a", "b"]) fun _ _ _ _ _ _ us hl => by obtain ⟨_, _, _, rfl⟩ := L2.J.ln3 hl; rfl
  have mRK := PySem.W.mg_of X G aRK
  have FLR := fun_mk (st := sLR) lLR cLR kLR
  have bLR := FLR.binds (ps := ["op", "a", "b"]) fun _ _ _ _ _ _ us hl => by obtain ⟨_, _, _, rfl⟩ := L2.J.ln3 hl; rfl
  have mLR := PySem.W.mg_of X G aLR
  have FRO := fun_mk (st := sRO) lRO cRO kRO
  have bRO := FRO.binds (ps := ["op", "a", "b"]) fun _ _ _ _ _ _ us hl => by obtain ⟨_, _, _, rfl⟩ := L2.J.ln3 hl; rfl
  have mRO := PySem.W.mg_of X G aRO
  have FPO := fun_mk (st := sPO) lPO cPO kPO
  have bPO := FPO.binds (ps := ["a", "b"]) fun _ _ _ _ _ _ us hl => by obtain ⟨_, _, rfl⟩ := L2.J.ln2 hl; rfl
  have mPO := PySem.W.mg_of X G aPO
  have FRT := fun_mk (st := sRT) lRT cRT kRT
  have bRT := FRT.binds (ps := ["a"]) fun _ _ _ _ _ _ us hl => by obtain ⟨_, rfl⟩ := L2.J.ln1 hl; rfl
  have mRT := PySem.W.mg_of X G aRT
  have FDV := fun_mk (st := sDV) lDV cDV kDV
  have bDV := FDV.binds (ps := ["a", "b"]) fun _ _ _ _ _ _ us hl => by obtain ⟨_, _, rfl⟩ := L2.J.ln2 hl; rfl
  have mDV := PySem.W.mg_of X G aDV
  have FEN := fun_mk (st := sNM) lEN cEN kEN
  have mEN := PySem.W.mg_of X G aEN
  refine ⟨PySem.W.fnOf "number" "number" (defArgs sNM) (defBody sNM) (defScope sNM) .none kVEN dcEN pmEN anEN cdEN ctEN, fun s us hu => match us, hu with | [_, _, _], _ => .of_eq rfl, fun base _ _ => ?_⟩
  have GFI : FnOk P w K mg base CX0 1 fFI _ ["self", "kind", "place"] (spXI CF) := ok_FI FFI T
  have GSB : FnOk P w K mg base (CXF P w) 3 fSB _ ["self"] (spSB K CF CR) := ok_SB FSB T FFI bFI
  have GRB : FnOk P w K mg base (CXF P w) 4 fRB _ ["self"] (spRB K CF CR) := ok_RB FRB T GSB bSB ⟨aSB, iSB, kSB⟩
  have GPB : FnOk P w K mg base (CXF P w) 3 fPB _ ["self", "how_many"] (spPB K CF CR) := ok_PB FPB T FFI bFI
  have GRV : FnOk P w K mg base (CXF P w) 5 fRV _ ["self"] (spRV K CF CR) := ok_RV FRV T FFI bFI GRB bRB ⟨aRB, iRB, kRB⟩
  have GPS : FnOk P w K mg base (CXF P w) 3 fPS _ ["row", "place", "end"] (spPS K CF) := ok_PS FPS T U FFI bFI FSL bSL mSL FLS bLS mLS FHS bHS mHS
  have GCU : FnOk P w K mg base (CXF P w) 4 fCU _ ["row", "start", "end"] (spCU K CF) := ok_CU FCU T U FFI bFI GPS bPS kPS mPS
  have R : RdOk P w K mg base CF CR fRV fPB fRB _ _ _ := ⟨GRV, bRV, ⟨aRV, iRV, kRV⟩, GPB, bPB, ⟨aPB, iPB, kPB⟩, GRB, bRB, ⟨aRB, iRB, kRB⟩⟩
  have GPN : FnOk P w K mg base (CXF P w) 6 fPN _ ["reader", "part"] (spPN K CF CR CP) := ok_PN FPN T TP NN GFI bFI R
  have GPR : FnOk P w K mg base (CXF P w) 6 fPR _ ["reader", "part"] (spPR K CF CR CP) := ok_PR FPR T TP NN R GCU bCU kCU mCU
  have GRN : FnOk P w K mg base (CXF P w) 6 fRN _ ["reader", "holder"] (spRN K CF CR CP) := ok_RN FRN T TP GFI bFI R GCU bCU kCU mCU
  have GPI : FnOk P w K mg base CX0 1 fPI _ ["self", "kind", "place"] (spPI CP) := ok_PI FPI TP
  have GLM : FnOk P w K mg base CX0 1 fLM _ ["part"] (spLM CP) := ok_LM FLM TP B T.len
  have GDP : FnOk P w K mg base CX0 1 fDP _ ["holder", "part"] (spDP CP) := ok_DP FDP TP B
  have GBP : FnOk P w K mg base (CXF P w) 7 fBP _ ["reader", "level"] (spBP K CF CR CP) := ok_BP FBP T TP B GFI bFI R ⟨mkCP, aPI, iPI, kcCP⟩ GPI bPI GPN bPN kPN mPN GPR bPR kPR mPR
  have GBM : FnOk P w K mg base (CXF P w) 8 fBM _ ["reader", "holder", "level"] (spBM K CF CR CP) := ok_BM FBM T TP B GRN bRN kRN mRN GBP bBP kBP mBP
  have GRI : FnOk P w K mg base CX0 1 fRI _ ["self", "row"] (spRI CR) := ok_RI FRI T
  have GRW : FnOk P w K mg base (CXF P w) 9 fRW _ ["row"] (spRW K CF CP) := ok_RW FRW T TP (PySem.W.mg_of X G aCR) ⟨tBYTES_BEHIND, PySem.W.mg_of X G gBYTES_BEHIND⟩ GFI bFI ⟨mkCR, aRI, iRI, kcCR⟩ GRI bRI GBP bBP kBP mBP GLM bLM kLM mLM GBM bBM kBM mBM GDP bDP kDP mDP
  have GIB : FnOk P w K mg base CX0 1 fIB _ ["row", "part"] (spIB K CP) := ok_IB FIB TP
  have GAO : FnOk P w K mg base CX0 1 fAO _ ["row"] (spAO K) := ok_AO FAO (PySem.W.ns_none_of X G zreversed)
  have GNO : FnOk P w K mg base CX0 2 fNO _ ["row", "part"] (spNO K CP) := ok_NO FNO TP GIB bIB kIB mIB GAO bAO kAO mAO
  have GUI : FnOk P w K mg base CX0 1 fUI _ ["self", "answer"] (spUI K CZ) := ok_UI FUI
  have GU5 : FnOk P w K mg base CX0 2 fU5 _ ["self"] (spSI C5 0 aNP) := ok_U5 FU5 ucC5 cU mU GUI bUI
  have GU4 : FnOk P w K mg base CX0 2 fU4 _ ["self"] (spSI C4 0 L2.J.aNR) := ok_U4 FU4 ucC4 cU mU GUI bUI
  have GU9 : FnOk P w K mg base CX0 2 fU9 _ ["self"] (spSI C9 0 aNV) := ok_U9 FU9 ucC9 cU mU GUI bUI
  have GVR : FnOk P w K mg base CX0 1 fVR _ ["amount"] (spVR) := ok_VR FVR
  have GAR : FnOk P w K mg base CX0 1 fAR _ ["amount"] (spAR) := ok_AR FAR
  have GNR : FnOk P w K mg base CX0 2 fNR _ ["number"] (spNR) := ok_NR FNR B.k2 T.len (PySem.W.ns_none_of X G zabs) GAR bAR kAR mAR GVR bVR kVR mVR
  have GIR : FnOk P w K mg base CX0 1 fIR _ ["number"] (spIR) := ok_IR FIR ⟨tLONGEST_NUMBER, PySem.W.mg_of X G gLONGEST_NUMBER⟩
  have GIO : FnOk P w K mg base CX0 1 fIO _ ["op"] (spIO) := ok_IO FIO O.k0 O.k9
  have GLR : FnOk P w K mg base CX0 1 fLR _ ["op", "a", "b"] (spLR) := ok_LR FLR O.k3 O.k4 O.k7 O.k8
  have GND : FnOk P w K mg base (CXF P w) 4 fND _ ["row", "whole"] (spND K CP C5) := ok_ND FND TP B.k2 ucC5 mC5 GU5 bU5 GNO bNO kNO mNO
  have GPO : FnOk P w K mg base (CXF P w) 4 fPO _ ["a", "b"] (spPO C9) := ok_PO FPO ⟨tLONGEST_NUMBER, PySem.W.mg_of X G gLONGEST_NUMBER⟩ (PySem.W.ns_none_of X G zabs) (PySem.W.ns_none_of X G zmin) (PySem.W.ns_none_of X G zrange) ucC9 mC9 GU9 bU9
  have GRT : FnOk P w K mg base CX0 35 fRT _ ["a"] (spRT) := ok_RT FRT ht (PySem.W.ns_none_of X G zrange)
  have GDV : FnOk P w K mg base CX0 1 fDV _ ["a", "b"] (spDV) := ok_DV FDV (PySem.W.ns_none_of X G zabs)
  have GRO : FnOk P w K mg base (CXF P w) 36 fRO _ ["op", "a", "b"] (spRO C9) := ok_RO FRO ht O GPO bPO kPO mPO GRT bRT kRT mRT GDV bDV kDV mDV
  have GRK : FnOk P w K mg base (CXF P w) 37 fRK _ ["op", "a", "b"] (spRK C4 C9) := ok_RK FRK ucC4 mC4 ucC9 mC9 GU4 bU4 GU9 bU9 GLR bLR kLR mLR GRO bRO kRO mRO GIR bIR kIR mIR
  exact ok_NM FEN xc (PySem.W.mg_of X G aCF) mU ucC5 ucC4 ucC9 sbC5 sbC4 sbC9 GIO bIO kIO mIO GRW bRW kRW mRW GND bND kND mND GRK bRK kRK mRK GNR bNR kNR mNR
end L2.J

set_option Elab.async false
set_option linter.all false
theorem PySem.W.Fast.tw8531109464129520825 : True := trivial
theorem PySem.W.Fast.tw12067937333433834256 : True := trivial
theorem PySem.W.Fast.tw4196404822864613404 : True := trivial
theorem PySem.W.Fast.tw11710379455310517626 : True := trivial
theorem PySem.W.Fast.tw6643170920358292098 : True := trivial
theorem PySem.W.Fast.tw6336921131805779389 : True := trivial
theorem PySem.W.Fast.tw5803293915031003111 : True := trivial
theorem PySem.W.Fast.tw14790032678932194889 : True := trivial
theorem PySem.W.Fast.tw15854685855369804650 : True := trivial
theorem PySem.W.Fast.tw13478974501528815537 : True := trivial
theorem PySem.W.Fast.tw7807602499772904174 : True := trivial
theorem PySem.W.Fast.tw279773200981732629 : True := trivial
theorem PySem.W.Fast.tw6467323841671081216 : True := trivial
theorem PySem.W.Fast.tw13416136887046605681 : True := trivial
theorem PySem.W.Fast.tw5664661931600413210 : True := trivial
theorem PySem.W.Fast.tw12545602078743001628 : True := trivial
theorem PySem.W.Fast.tw9451317313269533114 : True := trivial
theorem PySem.W.Fast.tw5438987713161672733 : True := trivial
theorem PySem.W.Fast.tw14396133602604522428 : True := trivial
theorem PySem.W.Fast.tw8597625928837713970 : True := trivial
theorem PySem.W.Fast.tw14623135238297902363 : True := trivial
theorem PySem.W.Fast.tw17175968367448996235 : True := trivial
theorem PySem.W.Fast.tw11318900519723819843 : True := trivial
theorem PySem.W.Fast.tw16385663300756643239 : True := trivial
theorem PySem.W.Fast.tw15142488932653779263 : True := trivial
theorem PySem.W.Fast.tw17728614051435318020 : True := trivial
theorem PySem.W.Fast.tw10767349249743942742 : True := trivial
theorem PySem.W.Fast.tw9336335512055940010 : True := trivial
theorem PySem.W.Fast.tw1575458322564180954 : True := trivial
theorem PySem.W.Fast.tw955844062442521268 : True := trivial
theorem PySem.W.Fast.tw9852724890241123172 : True := trivial
theorem PySem.W.Fast.tw13796597978265054123 : True := trivial
theorem PySem.W.Fast.tw15183054011875719580 : True := trivial
theorem PySem.W.Fast.tw7663530125460313625 : True := trivial
theorem PySem.W.Fast.tw3453859614121272490 : True := trivial
theorem PySem.W.Fast.tw16146830860191494451 : True := trivial
theorem PySem.W.Fast.tw14640270721001855339 : True := trivial
theorem PySem.W.Fast.tw16136651149508392013 : True := trivial
theorem PySem.W.Fast.tw14426847832724682732 : True := trivial
theorem PySem.W.Fast.tw12743357343814029021 : True := trivial
theorem PySem.W.Fast.tw7014209446641958237 : True := trivial
theorem PySem.W.Fast.tw6282984967215428156 : True := trivial
theorem PySem.W.Fast.tw1089261312453692859 : True := trivial
theorem PySem.W.Fast.tw9840962164229142846 : True := trivial
theorem PySem.W.Fast.tw9949252944867029109 : True := trivial
open PySem PySem.W PyProof.Rows
set_option maxRecDepth 100000 in
set_option maxHeartbeats 0 in
theorem PySem.Challenge.cw_onevalues_s13_number_holds : PySem.Challenge.rw_onevalues_s13_number.Holds := by
  w_on; k_headS; (case hw => exact ⟨[.int 0, .list [], .list []], by decide +kernel, by decide +kernel⟩)
  k_fillS
  refine L2.walk_specK (r := PySem.Challenge.rw_onevalues_s13_number) (k := 40) (CX := L2.CX0) (ps := ["op", "a", "b"]) (sp := fun K => L2.J.spNM K) (by decide +kernel) (by decide +kernel) rfl rfl ⟨rfl, by decide, by decide⟩ (fun w h Y => PySem.W.kIn_of Y) ?F ?S (fun _ _ _ _ z => z)
  case F =>
    intro w mg fa h Y KX G hmg
    refine' L2.J.all_mk KX G hmg ?_ ?_ ?_ ?_ ?_ ?_ ?_ ?_ ?_ ?_ ?_ ?_ ?_ ?_ ?_ ?_ ?_ ?_ ?_ ?_ ?_ ?_ ?_ ?_ ?_ ?_ ?_ ?_ ?_ ?_ ?_ ?_ ?_ ?_ ?_ ?_ ?_ ?_ ?_ ?_ ?_ ?_ ?_ ?_ ?_ ?_ ?_ ?_ ?_ ?_ ?_ ?_ ?_ ?_ ?_ ?_ ?_ ?_ ?_ ?_ ?_ ?_ ?_ ?_ ?_ ?_ ?_ ?_ ?_ ?_ ?_ ?_ ?_ ?_ ?_ ?_ ?_ ?_ ?_ ?_ ?_ ?_ ?_ ?_ ?_ ?_ ?_ ?_ ?_ ?_ ?_ ?_ ?_ ?_ ?_ ?_ ?_ ?_ ?_ ?_ ?_ ?_ ?_ ?_ ?_ ?_ ?_ ?_ ?_ ?_ ?_ ?_ ?_ ?_ ?_ ?_ ?_ ?_ ?_ ?_ ?_ ?_ ?_ ?_ ?_ ?_ ?_ ?_ ?_ ?_ ?_ ?_ ?_ ?_ ?_ ?_ ?_ ?_ ?_ ?_ ?_ ?_ ?_ ?_ ?_ ?_ ?_ ?_ ?_ ?_ ?_ ?_ ?_ ?_ ?_ ?_ ?_ ?_ ?_ ?_ ?_ ?_ ?_ ?_ ?_ ?_ ?_ ?_ ?_ ?_ ?_ ?_ ?_ ?_ ?_ ?_ ?_ ?_ ?_ ?_ ?_ ?_ ?_ ?_ ?_ ?_ ?_ ?_ ?_ ?_ ?_ ?_ ?_ ?_ ?_ ?_ ?_ ?_ ?_ ?_ ?_ ?_ ?_ ?_ ?_ ?_ ?_ ?_ ?_ ?_ ?_ ?_ ?_ ?_ ?_ ?_ ?_ ?_ ?_ ?_ ?_ ?_ ?_ ?_ ?_ ?_ ?_ ?_ ?_ ?_ ?_ ?_ ?_ ?_ ?_ ?_ ?_ ?_ ?_ ?_ ?_ ?_ ?_ ?_ ?_ ?_ ?_ ?_ ?_ ?_ ?_ ?_ ?_ ?_ ?_ ?_ ?_ ?_ ?_ ?_ ?_ ?_ ?_ ?_ ?_ ?_ ?_ ?_ ?_ ?_ ?_ ?_ ?_ ?_ ?_ ?_ ?_ ?_ ?_ ?_ ?_ ?_ ?_ ?_
    any_goals first | k_is | (simp [L2.XC.keysOk]; done) | rfl
  case S =>
    intro K H xs a hO hwi hask hx
    cases hx with
    | cons h0 r0 =>
      cases r0 with
      | cons h1 r1 =>
        cases r1 with
        | cons h2 r2 =>
          cases r2
          cases h0
          cases h1 with
          | lst hs1 ha1 =>
            cases h2 with
            | lst hs2 ha2 =>
              have e1 := L2.ints_dw a.2.1 _ ha1
              subst e1
              have e2 := L2.ints_dw a.2.2.1 _ ha2
              subst e2
              have q : (Codec.inInt (-1000000000000000000) 1000000000000000000 a.1 && ((Codec.inLen 0 65536 a.2.1 && a.2.1.all (Codec.inInt 0 255)) && ((Codec.inLen 0 65536 a.2.2.1 && a.2.2.1.all (Codec.inInt 0 255)) && true))) = true := hwi
              simp only [Bool.and_eq_true] at q
              have hb1 : ∀ x ∈ a.2.1, 0 ≤ x ∧ x ≤ 255 := fun x hx => Codec.inInt_iff.mp (List.all_eq_true.mp q.2.1.2 x hx)
              obtain ⟨bs1, eb1, el1⟩ := L2.J.ints_bytes a.2.1 hb1
              have hz1 : bs1.length ≤ 65536 := by rw [el1]; exact (Codec.inNat_iff.mp q.2.1.1).2
              have hb2 : ∀ x ∈ a.2.2.1, 0 ≤ x ∧ x ≤ 255 := fun x hx => Codec.inInt_iff.mp (List.all_eq_true.mp q.2.2.1.2 x hx)
              obtain ⟨bs2, eb2, el2⟩ := L2.J.ints_bytes a.2.2.1 hb2
              have hz2 : bs2.length ≤ 65536 := by rw [el2]; exact (Codec.inNat_iff.mp q.2.2.1.1).2
              have hd : PyYqswga.number a.1 a.2.1 a.2.2.1 = L2.J.numberL a.1 bs1 bs2 := by rw [eb1, eb2]; exact L2.J.number_is a.1 bs1 bs2 hz1 hz2
              rw [eb1, ← L2.J.bv_ints] at hs1
              rw [eb2, ← L2.J.bv_ints] at hs2
              refine ⟨a.1, _, bs1, _, bs2, rfl, hs1, hz1, hs2, hz2, fun H' p hp => ?_⟩
              rw [← hd] at hp
              exact .lst (L2.SqL.of hp) (L2.dw_ints _)
#print axioms PySem.Challenge.cw_onevalues_s13_number_holds
